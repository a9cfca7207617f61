package groups

import (
	"math"
	"slices"
	"testing"

	"furlong/api"
)

// Numbers that a bound, a shift or a shorter integer could get wrong.
var odd = []int{math.MinInt, math.MinInt + 1, -1 << 32, -65, -64, -63, -2, -1, 4, 5, 31, 32, 63, 64, 65, 1 << 32, math.MaxInt - 1, math.MaxInt}

// A1: ordinary groups, and the least and the greatest numbers of both.
func TestCheckRight(t *testing.T) {
	for _, x := range []struct {
		nodes int
		l     []int
	}{
		{1, []int{1}}, {1, []int{1, 1, 1}},
		{2, []int{3}}, {2, []int{1, 2, 3}}, {2, []int{2}},
		{3, []int{3, 6}}, {3, []int{7, 4, 1}},
		{4, []int{8}}, {4, []int{15, 15, 15}}, {4, []int{1, 8, 9}},
	} {
		if e := Check(x.nodes, x.l); e != api.OK {
			t.Errorf("Check(%d, %v): %d", x.nodes, x.l, e)
		}
	}
}

// A1: each error, at its edges.
func TestCheckWrong(t *testing.T) {
	for _, x := range []struct {
		nodes int
		l     []int
		want  api.Errno
	}{
		{0, []int{1}, api.ErrRange}, {-1, []int{1}, api.ErrRange}, {5, []int{1}, api.ErrRange},
		{1, nil, api.ErrMany}, {4, []int{}, api.ErrMany}, {4, []int{1, 1, 1, 1}, api.ErrMany},
		{4, []int{0}, api.ErrForm}, {4, []int{1, 0}, api.ErrForm}, {4, []int{1, 1, 0}, api.ErrForm}, {4, []int{0, 1}, api.ErrForm},
		{1, []int{2}, api.ErrForm}, {1, []int{3}, api.ErrForm}, {2, []int{4}, api.ErrForm}, {2, []int{5}, api.ErrForm},
		{3, []int{8}, api.ErrForm}, {3, []int{7, 15}, api.ErrForm}, {4, []int{16}, api.ErrForm}, {4, []int{17, 1, 1}, api.ErrForm},
	} {
		if e := Check(x.nodes, x.l); e != x.want {
			t.Errorf("Check(%d, %v): %d, not %d", x.nodes, x.l, e, x.want)
		}
	}
	for _, n := range odd {
		if e := Check(n, []int{1}); n != 4 && e != api.ErrRange {
			t.Errorf("Check(%d, [1]): %d", n, e)
		}
		if e := Check(4, []int{1, n}); (n < 1 || n > 15) && e != api.ErrForm {
			t.Errorf("Check(4, [1 %d]): %d", n, e)
		}
	}
}

// A1, P1: of several errors the one that is named first.
func TestCheckOrder(t *testing.T) {
	for _, x := range []struct {
		nodes int
		l     []int
		want  api.Errno
	}{
		{0, nil, api.ErrRange}, {5, []int{0}, api.ErrRange}, {-1, []int{0, 0, 0, 0}, api.ErrRange},
		{3, []int{0, 0, 0, 0}, api.ErrMany}, {3, []int{1, 1, 1, 8}, api.ErrMany},
	} {
		if e := Check(x.nodes, x.l); e != x.want {
			t.Errorf("Check(%d, %v): %d, not %d", x.nodes, x.l, e, x.want)
		}
	}
}

// A1: all single groups, held against the members counted bit by bit.
func TestCheckAll(t *testing.T) {
	for nodes := 1; nodes <= api.MaxNodes; nodes++ {
		for group := 0; group < 64; group++ {
			want := api.ErrForm
			for k := 0; k < 6; k++ {
				if group/(1<<k)%2 == 1 {
					want = api.OK
				}
			}
			for k := nodes; k < 6; k++ {
				if group/(1<<k)%2 == 1 {
					want = api.ErrForm
				}
			}
			if e := Check(nodes, []int{group}); e != want {
				t.Errorf("Check(%d, [%d]): %d, not %d", nodes, group, e, want)
			}
		}
	}
}

// A2: who is a member of what.
func TestHas(t *testing.T) {
	l := []int{3, 6, 9}
	want := [][]bool{{true, true, false, false}, {false, true, true, false}, {true, false, false, true}}
	for g, row := range want {
		for n, w := range row {
			if Has(l, g, n) != w {
				t.Errorf("Has(%v, %d, %d): %v", l, g, n, !w)
			}
		}
	}
}

// A2: no group of that number; no node of that one, though the bit is there.
func TestHasOutside(t *testing.T) {
	all := []int{-1, -1}
	for _, x := range append([]int{2, 3}, odd...) {
		if Has(all, x, 0) {
			t.Errorf("Has(%v, %d, 0)", all, x)
		}
	}
	for _, x := range odd {
		if Has(all, 1, x) || len(Of(all, x)) > 0 || Share(all, x, x) || Share(all, 0, x) || Share(all, x, 0) {
			t.Errorf("%d is a member of one of %v", x, all)
		}
	}
	if Has(nil, 0, 0) || Has([]int{}, 0, 0) || Has(nil, -1, -1) {
		t.Error("there is a member where there is no group")
	}
	for n := range api.MaxNodes {
		if !Has(all, 1, n) {
			t.Errorf("Has(%v, 1, %d): false", all, n)
		}
	}
}

// A2: the groups of a node, rising; more of them than Check lets pass are told, too.
func TestOf(t *testing.T) {
	for _, x := range []struct {
		l    []int
		n    int
		want []int
	}{
		{[]int{3, 6}, 0, []int{0}}, {[]int{3, 6}, 1, []int{0, 1}}, {[]int{3, 6}, 2, []int{1}}, {[]int{3, 6}, 3, nil},
		{[]int{8, 7, 8}, 3, []int{0, 2}}, {[]int{15, 15, 15}, 0, []int{0, 1, 2}},
		{[]int{1, 0, 1, 2, 1}, 0, []int{0, 2, 4}},
		{[]int{3, 6}, -1, nil}, {[]int{31}, 4, nil}, {nil, 0, nil}, {[]int{}, 0, nil}, {[]int{0}, 0, nil},
	} {
		if got := Of(x.l, x.n); !slices.Equal(got, x.want) {
			t.Errorf("Of(%v, %d): %v, not %v", x.l, x.n, got, x.want)
		}
	}
}

// A2: both must be in the same group.
func TestShare(t *testing.T) {
	for _, x := range []struct {
		l    []int
		a, b int
		want bool
	}{
		{[]int{3, 6}, 0, 1, true}, {[]int{3, 6}, 1, 0, true}, {[]int{3, 6}, 1, 2, true}, {[]int{3, 6}, 0, 2, false}, {[]int{3, 6}, 2, 0, false},
		{[]int{3, 6}, 2, 2, true}, {[]int{3, 6}, 3, 3, false}, {[]int{3, 6}, 3, 0, false}, {[]int{3, 6}, 0, 3, false},
		{[]int{1, 2, 4}, 0, 1, false}, {[]int{1, 2, 5}, 0, 2, true}, {[]int{9}, 0, 3, true},
		{[]int{31}, 0, 4, false}, {[]int{31}, 4, 4, false}, {nil, 0, 0, false}, {[]int{0}, 0, 0, false},
	} {
		if got := Share(x.l, x.a, x.b); got != x.want {
			t.Errorf("Share(%v, %d, %d): %v", x.l, x.a, x.b, got)
		}
	}
}

// A2: Has, Of and Share say the same of all pairs of groups.
func TestTogether(t *testing.T) {
	for k := range 16 * 16 {
		l := []int{k % 16, k / 16}
		for a := range api.MaxNodes {
			for g := range l {
				if Has(l, g, a) != slices.Contains(Of(l, a), g) {
					t.Fatalf("Has and Of part on %v, group %d, node %d", l, g, a)
				}
			}
			for b := range api.MaxNodes {
				both := Has(l, 0, a) && Has(l, 0, b) || Has(l, 1, a) && Has(l, 1, b)
				if Share(l, a, b) != both {
					t.Fatalf("Has and Share part on %v, nodes %d and %d", l, a, b)
				}
			}
		}
	}
}

// P2, P3: what is handed in stays, its spare room too; what comes out is the caller's.
func TestMemory(t *testing.T) {
	room := []int{3, 6, 77, 88}
	l := room[:2]
	first := Of(l, 1)
	Check(3, l)
	Has(l, 0, 1)
	Share(l, 0, 1)
	for i := range first {
		first[i] = 99
	}
	_ = append(first, 99)
	if !slices.Equal(room, []int{3, 6, 77, 88}) {
		t.Errorf("what was handed in is %v", room)
	}
	second := Of(l, 1)
	if !slices.Equal(second, []int{0, 1}) {
		t.Errorf("asked again it is %v", second)
	}
	l[0] = 0
	if !slices.Equal(second, []int{0, 1}) {
		t.Errorf("a later change is seen: %v", second)
	}
}
