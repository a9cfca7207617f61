package msg

import (
	"math"
	"slices"
	"strings"
	"testing"

	"furlong/api"
)

func message(from, stamp int) api.Msg { return api.Msg{From: from, Stamp: stamp} }

// rising has n messages, of nodes 0 and 1 by turns, with Stamps 2, 2, 4, 4 and so on.
func rising(n int) []api.Msg {
	var l []api.Msg
	for i := range n {
		l = append(l, message(i%2, 2+i/2*2))
	}
	return l
}

// B1: ordinary messages, and the least and the greatest of each field.
func TestCheckRight(t *testing.T) {
	l := []int{3, 6}
	for _, m := range []api.Msg{
		{From: 0, Group: 0, Stamp: 1}, {From: 1, Group: 1, Stamp: 5, Body: "x"}, {From: 2, Group: 1, Stamp: 1},
		{Stamp: api.MaxStamp, Body: "x"}, {Stamp: 1, Body: "12345678"}, {Stamp: 1, Body: "\x00\xff\n \xc3\x28~"},
		{Stamp: 1, Null: true}, {From: 2, Group: 1, Stamp: api.MaxStamp, Null: true},
	} {
		if e := Check(3, l, m); e != api.OK {
			t.Errorf("Check(3, %v, %+v): %d", l, m, e)
		}
	}
	if e := Check(4, []int{1, 2, 8}, api.Msg{From: 3, Group: 2, Stamp: 1}); e != api.OK {
		t.Errorf("of the last node, to the last group: %d", e)
	}
}

// B1: each error, at its edges.
func TestCheckWrong(t *testing.T) {
	l := []int{3, 6}
	for _, x := range []struct {
		m    api.Msg
		want api.Errno
	}{
		{api.Msg{From: -1, Stamp: 1}, api.ErrRange}, {api.Msg{From: 3, Stamp: 1}, api.ErrRange}, {api.Msg{From: math.MinInt, Stamp: 1}, api.ErrRange}, {api.Msg{From: math.MaxInt, Stamp: 1}, api.ErrRange},
		{api.Msg{Group: -1, Stamp: 1}, api.ErrRange}, {api.Msg{Group: 2, Stamp: 1}, api.ErrRange}, {api.Msg{Group: math.MinInt, Stamp: 1}, api.ErrRange}, {api.Msg{Group: math.MaxInt, Stamp: 1}, api.ErrRange},
		{api.Msg{}, api.ErrRange}, {api.Msg{Stamp: -1}, api.ErrRange}, {api.Msg{Stamp: api.MaxStamp + 1}, api.ErrRange}, {api.Msg{Stamp: math.MaxInt}, api.ErrRange}, {api.Msg{Stamp: math.MinInt}, api.ErrRange}, {api.Msg{Stamp: 1<<32 + 1}, api.ErrRange},
		{api.Msg{From: 2, Stamp: 1}, api.ErrOut}, {api.Msg{Group: 1, Stamp: 1}, api.ErrOut},
		{api.Msg{Stamp: 1, Body: "123456789"}, api.ErrForm}, {api.Msg{Stamp: 1, Body: "äöüßé"}, api.ErrForm}, {api.Msg{Stamp: 1, Body: strings.Repeat("x", 264)}, api.ErrForm},
		{api.Msg{Stamp: 1, Null: true, Body: "x"}, api.ErrForm}, {api.Msg{Stamp: 1, Null: true, Body: "\x00"}, api.ErrForm}, {api.Msg{Stamp: 1, Null: true, Body: "123456789"}, api.ErrForm},
	} {
		if e := Check(3, l, x.m); e != x.want {
			t.Errorf("Check(3, %v, %+v): %d, not %d", l, x.m, e, x.want)
		}
	}
}

// B1, P1: of several errors the one that is named first, the groups' ahead of all.
func TestCheckOrder(t *testing.T) {
	wrong := api.Msg{From: -1, Group: -1, Null: true, Body: "123456789"}
	for _, x := range []struct {
		nodes int
		l     []int
		m     api.Msg
		want  api.Errno
	}{
		{0, nil, wrong, api.ErrRange}, {5, []int{1}, api.Msg{Stamp: 1}, api.ErrRange}, {3, nil, wrong, api.ErrMany}, {3, []int{1, 1, 1, 1}, api.Msg{Stamp: 1}, api.ErrMany},
		{3, []int{0}, wrong, api.ErrForm}, {3, []int{1, 8}, api.Msg{Stamp: 1}, api.ErrForm}, {1, []int{3}, api.Msg{From: 1, Stamp: 1}, api.ErrForm},
		{3, []int{3, 6}, wrong, api.ErrRange}, {3, []int{3, 6}, api.Msg{From: 2, Stamp: 0, Body: "123456789"}, api.ErrRange},
		{3, []int{3, 6}, api.Msg{From: 2, Stamp: 1, Body: "123456789"}, api.ErrOut}, {3, []int{3, 6}, api.Msg{From: 2, Stamp: 1, Null: true, Body: "x"}, api.ErrOut},
		{2, []int{1}, api.Msg{From: 1, Stamp: 1}, api.ErrOut}, {2, []int{1}, api.Msg{From: 2, Stamp: 1}, api.ErrRange},
	} {
		if e := Check(x.nodes, x.l, x.m); e != x.want {
			t.Errorf("Check(%d, %v, %+v): %d, not %d", x.nodes, x.l, x.m, e, x.want)
		}
	}
}

// B2: the Stamp first, then From, and nothing else.
func TestLess(t *testing.T) {
	for _, x := range []struct {
		a, b api.Msg
		want bool
	}{
		{message(0, 1), message(2, 1), true}, {message(2, 1), message(0, 1), false},
		{message(3, 1), message(0, 2), true}, {message(0, 2), message(3, 1), false},
		{message(1, 1), message(1, 1), false}, {message(-1, 5), message(0, 5), true},
		{message(0, math.MinInt), message(0, math.MaxInt), true}, {message(0, math.MaxInt), message(0, math.MinInt), false},
		{message(math.MinInt, 1), message(math.MaxInt, 1), true}, {message(math.MaxInt, 1), message(math.MinInt, 1), false},
		{api.Msg{Stamp: 1, Group: 0}, api.Msg{Stamp: 1, Group: 1}, false}, {api.Msg{Stamp: 1, Body: "a"}, api.Msg{Stamp: 1, Body: "b"}, false}, {api.Msg{Stamp: 1}, api.Msg{Stamp: 1, Null: true}, false},
	} {
		if got := Less(x.a, x.b); got != x.want {
			t.Errorf("Less(%+v, %+v): %v", x.a, x.b, got)
		}
	}
}

// B2: first, between, last, and into nothing; the message comes out whole.
func TestPut(t *testing.T) {
	for size := range api.MaxList {
		l := rising(size)
		for stamp := 1; stamp <= size+4; stamp++ {
			for from := -1; from <= 2; from++ {
				m := api.Msg{From: from, Group: 7, Stamp: stamp, Null: true, Body: "longer than it may be"}
				there := slices.ContainsFunc(l, func(x api.Msg) bool { return x.Stamp == stamp && x.From == from })
				got, e := Put(l, m)
				if there {
					if e != api.ErrForm || len(got) > 0 {
						t.Fatalf("%d of %d is there: %v %d", stamp, from, got, e)
					}
					continue
				}
				want := append(slices.Clone(l), m)
				slices.SortFunc(want, func(a, b api.Msg) int {
					if a.Stamp != b.Stamp {
						return a.Stamp - b.Stamp
					}
					return a.From - b.From
				})
				if e != api.OK || !slices.Equal(got, want) {
					t.Fatalf("Put(%v, %+v): %v %d", l, m, got, e)
				}
			}
		}
	}
}

// B2: lists that do not rise, wherever it is, and whoever is put.
func TestPutNotRising(t *testing.T) {
	for _, l := range [][]api.Msg{
		{message(0, 2), message(0, 2)}, {message(0, 2), message(0, 1)}, {message(1, 2), message(0, 2)},
		{message(0, 1), message(0, 2), message(0, 2)}, {message(0, 2), message(0, 1), message(0, 3)}, {message(0, 1), message(1, 3), message(0, 3)},
		{{Stamp: 2, Body: "a"}, {Stamp: 2, Body: "b"}}, {{Stamp: 2, Group: 0}, {Stamp: 2, Group: 1}},
	} {
		for stamp := range 5 {
			if got, e := Put(l, message(0, stamp)); e != api.ErrForm || len(got) > 0 {
				t.Errorf("Put(%v, %d of 0): %v %d", l, stamp, got, e)
			}
		}
	}
}

// B2, P1: MaxList may come out, not more; not to rise is named ahead of that, to be there already behind it.
func TestPutMany(t *testing.T) {
	if got, e := Put(rising(api.MaxList-1), message(0, 1)); e != api.OK || len(got) != api.MaxList {
		t.Errorf("one more has room: %d, %d", len(got), e)
	}
	for _, size := range []int{api.MaxList, api.MaxList + 1, 2 * api.MaxList} {
		l := rising(size)
		for _, m := range []api.Msg{message(0, 1), l[0], l[size-1], message(0, 1000)} {
			if got, e := Put(l, m); e != api.ErrMany || len(got) > 0 {
				t.Errorf("%d and %+v: %v %d", size, m, got, e)
			}
		}
		l[size-1] = l[size-2]
		if got, e := Put(l, message(0, 1000)); e != api.ErrForm || len(got) > 0 {
			t.Errorf("%d that do not rise: %v %d", size, got, e)
		}
	}
}

// B2: who has the same Stamp and From is there, whatever else it says.
func TestPutThere(t *testing.T) {
	l := []api.Msg{{From: 1, Stamp: 2, Body: "a"}}
	for _, m := range []api.Msg{{From: 1, Stamp: 2, Body: "b"}, {From: 1, Stamp: 2, Group: 1, Body: "a"}, {From: 1, Stamp: 2, Null: true}} {
		if got, e := Put(l, m); e != api.ErrForm || len(got) > 0 {
			t.Errorf("Put(%v, %+v): %v %d", l, m, got, e)
		}
	}
}

// P2, P3: what is handed in stays, its spare room too; what comes out is the caller's.
func TestPutMemory(t *testing.T) {
	for stamp := 1; stamp <= 7; stamp += 2 {
		room := []api.Msg{message(0, 2), message(0, 4), message(0, 6), message(9, 9), message(8, 8)}
		before := slices.Clone(room)
		l := room[:3]
		first, _ := Put(l, message(0, stamp))
		kept := slices.Clone(first)
		second, _ := Put(l, message(0, stamp))
		for i := range first {
			first[i] = message(7, 7)
		}
		_ = append(first, message(7, 7))
		if !slices.Equal(room, before) {
			t.Errorf("what was handed in is %v", room)
		}
		clear(room)
		if !slices.Equal(second, kept) {
			t.Errorf("asked again, and with what was handed in changed, it is %v", second)
		}
	}
}
