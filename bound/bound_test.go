package bound

import (
	"math"
	"reflect"
	"slices"
	"testing"

	"furlong/api"
	"furlong/world"
)

// of is a message of node n to group g.
func of(n, g, stamp int, body string) api.Msg {
	return api.Msg{From: n, Group: g, Stamp: stamp, Body: body}
}

// begin is the world of these nodes and groups, ahead of all messages.
func begin(t *testing.T, nodes int, l ...int) api.World {
	t.Helper()
	w, e := world.Begin(nodes, l)
	if e != api.OK {
		t.Fatalf("Begin(%d, %v): %d", nodes, l, e)
	}
	return w
}

// far asks that node n of w is as far as want.
func far(t *testing.T, w api.World, n, want int) {
	t.Helper()
	if x, e := Of(w, n); x != want || e != api.OK {
		t.Errorf("Of node %d: %d, error %d, not %d", n, x, e, want)
	}
}

// ready asks that of what node n of w holds, these are ready.
func ready(t *testing.T, w api.World, n int, want ...api.Msg) {
	t.Helper()
	if l, e := Ready(w, n); !slices.Equal(l, want) || e != api.OK {
		t.Errorf("Ready of node %d: %v, error %d, not %v", n, l, e, want)
	}
}

// D1, the fourth example: node 1 has heard 1 from both.
func TestOf(t *testing.T) {
	w := begin(t, 3, 3, 6)
	far(t, w, 1, 0)
	w.Nodes[1].Clock = 3
	w.Nodes[1].Last[0][0] = 1
	far(t, w, 1, 0)
	w.Nodes[1].Last[1][2] = 1
	far(t, w, 1, 1)
	w.Nodes[1].Last[0][0], w.Nodes[1].Last[1][2] = 7, 2
	far(t, w, 1, 2)
	w.Nodes[1].Last[1][2] = 9
	far(t, w, 1, 3)
	far(t, w, 0, 0)
	far(t, w, 2, 0)
}

// D1: what a node has of itself, and what others have heard, is not asked for.
func TestOfOthers(t *testing.T) {
	w := begin(t, 3, 3, 6)
	w.Nodes[0].Clock, w.Nodes[0].Last[0][1] = 5, 4
	w.Nodes[1].Clock = 1
	far(t, w, 0, 4)
	w.Nodes[0].Last[0][0] = 2
	far(t, w, 0, 4)
	w.Nodes[0].Last[0][1] = api.MaxStamp
	far(t, w, 0, 5)
	w.Nodes[0].Clock = api.MaxStamp
	far(t, w, 0, api.MaxStamp)
}

// D1: of each group on its own, though it is the same node in both.
func TestOfGroups(t *testing.T) {
	w := begin(t, 2, 3, 3, 3)
	w.Nodes[0].Clock = 9
	for g, x := range []int{6, 4, 5} {
		w.Nodes[0].Last[g][1] = x
	}
	far(t, w, 0, 4)
	w.Nodes[0].Last[1][1] = 8
	far(t, w, 0, 5)
	w.Nodes[0].Last[2][1] = 8
	far(t, w, 0, 6)
}

// D1: a node without other members is as far as its Clock.
func TestOfAlone(t *testing.T) {
	w := begin(t, 4, 1, 6)
	w.Nodes[0].Clock, w.Nodes[3].Clock = 7, 8
	w.Nodes[0].Held = []api.Msg{of(0, 0, 6, "a"), of(0, 0, 7, "b"), of(0, 0, 8, "c")}
	far(t, w, 0, 7)
	far(t, w, 1, 0)
	far(t, w, 3, 8)
	ready(t, w, 0, of(0, 0, 6, "a"), of(0, 0, 7, "b"))
	ready(t, w, 3)
}

// D1: all that is held up to how far the node is, and nothing else, in order.
func TestReady(t *testing.T) {
	held := []api.Msg{of(0, 0, 1, "a"), of(1, 0, 2, "b"), of(0, 0, 3, ""), of(1, 1, 3, "d"), of(2, 1, 3, "e"), of(2, 1, 4, "f")}
	for bound, many := range []int{0, 1, 2, 5, 6, 6} {
		w := begin(t, 3, 3, 6)
		w.Nodes[1].Held = held
		w.Nodes[1].Told = []api.Msg{of(0, 0, 1, "told")}
		w.Nodes[1].Clock, w.Nodes[1].Last[0][0], w.Nodes[1].Last[1][2] = 9, 7, bound
		ready(t, w, 1, held[:many]...)
		w.Nodes[1].Clock, w.Nodes[1].Last[0][0], w.Nodes[1].Last[1][2] = bound, 7, 9
		ready(t, w, 1, held[:many]...)
		w.Nodes[1].Clock, w.Nodes[1].Last[0][0], w.Nodes[1].Last[1][2] = 9, bound, 7
		ready(t, w, 1, held[:many]...)
		ready(t, w, 0)
		ready(t, w, 2)
	}
}

// D1: as many as a node may hold, all ready at the greatest stamp.
func TestReadyMany(t *testing.T) {
	w := begin(t, 2, 3)
	for i := range api.MaxList {
		w.Nodes[0].Held = append(w.Nodes[0].Held, of(1, 0, api.MaxStamp-api.MaxList+1+i, ""))
	}
	w.Nodes[0].Clock, w.Nodes[0].Last[0][1] = api.MaxStamp, api.MaxStamp
	ready(t, w, 0, w.Nodes[0].Held...)
	w.Nodes[0].Clock--
	ready(t, w, 0, w.Nodes[0].Held[:api.MaxList-1]...)
}

// least is how far node n is, by another road: one number after the other.
func least(w api.World, n int) int {
	numbers := []int{w.Nodes[n].Clock}
	for g, mask := range w.Groups {
		for k := range w.Nodes {
			if mask&(1<<n) != 0 && mask&(1<<k) != 0 && k != n {
				numbers = append(numbers, w.Nodes[n].Last[g][k])
			}
		}
	}
	return slices.Min(numbers)
}

// D1: all groups of four nodes, two at a time, each number another one.
func TestAllGroups(t *testing.T) {
	for a := 1; a < 16; a++ {
		for b := 1; b < 16; b++ {
			w := begin(t, 4, a, b)
			for n := range w.Nodes {
				w.Nodes[n].Clock = (a*7+b*5+n*3)%11 + 1
				for g, mask := range w.Groups {
					for k := range w.Nodes {
						if mask&(1<<n) != 0 && mask&(1<<k) != 0 {
							w.Nodes[n].Last[g][k] = (a*3+b*13+n*5+g*17+k*29)%13 + 1
						}
					}
				}
			}
			for n := range w.Nodes {
				far(t, w, n, least(w, n))
			}
		}
	}
}

// refused asks that both calls answer want, and nothing else.
func refused(t *testing.T, name string, w api.World, n int, want api.Errno) {
	t.Helper()
	if x, e := Of(w, n); x != 0 || e != want {
		t.Errorf("Of node %d, %s: %d, error %d, not %d", n, name, x, e, want)
	}
	if l, e := Ready(w, n); len(l) != 0 || e != want {
		t.Errorf("Ready of node %d, %s: %v, error %d, not %d", n, name, l, e, want)
	}
}

// busy is a world in which each node is as far as 2, and holds what is ready.
func busy(t *testing.T) api.World {
	w := begin(t, 3, 3, 6)
	w.Nodes[0] = api.Node{Clock: 2, Last: [][]int{{0, 3, 0}, {0, 0, 0}}, Held: []api.Msg{of(0, 0, 2, "a")}}
	w.Nodes[1] = api.Node{Clock: 5, Last: [][]int{{2, 0, 0}, {0, 0, 4}}, Held: []api.Msg{of(0, 0, 2, "a"), of(2, 1, 3, "b")}}
	w.Nodes[2] = api.Node{Clock: 4, Last: [][]int{{0, 0, 0}, {0, 2, 0}}, Held: []api.Msg{of(2, 1, 1, "c")}}
	return w
}

// D1: there is no such node.
func TestNone(t *testing.T) {
	for _, n := range []int{math.MinInt, -1 << 32, -1, 3, 4, 63, 64, 1 << 32, math.MaxInt} {
		refused(t, "no node", busy(t), n, api.ErrNone)
	}
	for n := range 3 {
		far(t, busy(t), n, 2)
	}
}

// D1, P1: world.Check's errors, which go ahead of ErrNone.
func TestWrongWorld(t *testing.T) {
	for _, x := range []struct {
		name string
		want api.Errno
		do   func(w *api.World)
	}{
		{"no nodes", api.ErrRange, func(w *api.World) { w.Nodes = nil }},
		{"five nodes", api.ErrRange, func(w *api.World) { w.Nodes = make([]api.Node, 5) }},
		{"no groups", api.ErrMany, func(w *api.World) { w.Groups = nil }},
		{"too many held", api.ErrMany, func(w *api.World) { w.Nodes[0].Held = make([]api.Msg, api.MaxList+1) }},
		{"a group of nobody", api.ErrForm, func(w *api.World) { w.Groups[0] = 0 }},
		{"no Last", api.ErrForm, func(w *api.World) { w.Nodes[1].Last = nil }},
		{"short Last", api.ErrForm, func(w *api.World) { w.Nodes[1].Last[1] = nil }},
		{"a Clock below 0", api.ErrForm, func(w *api.World) { w.Nodes[2].Clock = -1 }},
		{"no Wires", api.ErrForm, func(w *api.World) { w.Wires = nil }},
		{"held falls", api.ErrForm, func(w *api.World) { w.Nodes[1].Held[0].Stamp = 9 }},
	} {
		w := busy(t)
		x.do(&w)
		for n := -1; n <= 5; n++ {
			refused(t, x.name, w, n, x.want)
		}
	}
}

// D1, P2, P3: what is handed in stays, spare room too; an answer is new memory.
func TestMemory(t *testing.T) {
	w := busy(t)
	spare := of(7, 7, 7, "7")
	w.Nodes[1].Held = append(make([]api.Msg, 0, 8), of(0, 0, 1, "a"), of(2, 1, 2, "b"), of(2, 1, 3, "c"), spare, spare)[:3]
	before := slices.Clone(w.Nodes[1].Held[:5])
	first, _ := Ready(w, 1)
	second, _ := Ready(w, 1)
	want := []api.Msg{of(0, 0, 1, "a"), of(2, 1, 2, "b")}
	if !slices.Equal(first, want) || !slices.Equal(second, want) {
		t.Fatalf("Ready: %v and %v, not %v", first, second, want)
	}
	first = append(first, spare)
	first[0] = spare
	far(t, w, 1, 2)
	if !slices.Equal(w.Nodes[1].Held[:5], before) || !slices.Equal(second, want) {
		t.Errorf("held is %v, the other answer %v", w.Nodes[1].Held[:5], second)
	}
	w.Nodes[1].Held[1].Body = "changed"
	if !slices.Equal(second, want) {
		t.Errorf("an answer knows of a later change: %v", second)
	}
	all := busy(t)
	kept := busy(t)
	for n := -1; n < 4; n++ {
		Of(all, n)
		Ready(all, n)
	}
	if !reflect.DeepEqual(all, kept) {
		t.Errorf("%v was left of %v", all, kept)
	}
}
