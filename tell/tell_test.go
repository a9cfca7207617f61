package tell

import (
	"fmt"
	"math"
	"testing"

	"furlong/api"
	"furlong/world"
)

// of is a message of node n to group g.
func of(n, g, stamp int, body string) api.Msg {
	return api.Msg{From: n, Group: g, Stamp: stamp, Body: body}
}

// run is a rising list of that many messages of node n to group 0, from Stamp first on.
func run(n, first, many int) []api.Msg {
	var l []api.Msg
	for i := range many {
		l = append(l, of(n, 0, first+i, "x"))
	}
	return l
}

// begin is the world of these nodes and groups, ahead of all messages.
func begin(t *testing.T, nodes int, l ...int) api.World {
	t.Helper()
	w, e := world.Begin(nodes, l)
	if e != api.OK {
		t.Fatalf("Begin(%d, %v): %d", nodes, l, e)
	}
	return w
}

// pair is a world of two nodes in one group, in which node 0 is as far as that.
func pair(t *testing.T, far int, held, told []api.Msg) api.World {
	w := begin(t, 2, 3)
	w.Nodes[0] = api.Node{Clock: far, Last: [][]int{{0, far}}, Held: held, Told: told}
	return w
}

// told asks that Node tells that many, and leaves the world as want has it.
func told(t *testing.T, w api.World, n, many int, want api.World) {
	t.Helper()
	got, x, e := Node(w, n)
	if e != api.OK || x != many || fmt.Sprintf("%+v", got) != fmt.Sprintf("%+v", want) {
		t.Errorf("Node %d: %d told, error %d\n%+v\nnot %d\n%+v", n, x, e, got, many, want)
	}
	if e := world.Check(got); e != api.OK {
		t.Errorf("Node %d: a world with error %d", n, e)
	}
}

// refused asks that Node answers want, and nothing else.
func refused(t *testing.T, name string, w api.World, n int, want api.Errno) {
	t.Helper()
	got, x, e := Node(w, n)
	if e != want || x != 0 || got.Groups != nil || got.Nodes != nil || got.Wires != nil {
		t.Errorf("Node %d, %s: %+v, %d, error %d, not %d", n, name, got, x, e, want)
	}
}

// busy is a world in which node 1 is as far as 1, and holds 1 and more; nodes
// 0 and 2 hold what is ready, too, and something is on its way.
func busy(t *testing.T) api.World {
	w := begin(t, 3, 3, 6)
	w.Nodes[0] = api.Node{Clock: 2, Last: [][]int{{0, 2, 0}, {0, 0, 0}}, Held: []api.Msg{of(0, 0, 2, "z")}}
	w.Nodes[1] = api.Node{Clock: 3, Last: [][]int{{1, 0, 0}, {0, 0, 4}}, Held: []api.Msg{of(0, 0, 1, "a"), of(2, 1, 2, "b")}}
	w.Nodes[2] = api.Node{Clock: 5, Last: [][]int{{0, 0, 0}, {0, 1, 0}}, Held: []api.Msg{of(2, 1, 1, "y"), of(2, 1, 5, "x")}, Told: []api.Msg{of(1, 1, 1, "w")}}
	w.Wires[0][1] = []api.Msg{of(0, 0, 2, "z")}
	return w
}

// E1, the fifth example: told the one that has Stamp 1, it holds the other one;
// nothing else has changed.
func TestNode(t *testing.T) {
	want := busy(t)
	want.Nodes[1].Held, want.Nodes[1].Told = []api.Msg{of(2, 1, 2, "b")}, []api.Msg{of(0, 0, 1, "a")}
	told(t, busy(t), 1, 1, want)
	want = busy(t)
	want.Nodes[0].Held, want.Nodes[0].Told = nil, []api.Msg{of(0, 0, 2, "z")}
	told(t, busy(t), 0, 1, want)
	want = busy(t)
	want.Nodes[2].Held, want.Nodes[2].Told = []api.Msg{of(2, 1, 5, "x")}, []api.Msg{of(1, 1, 1, "w"), of(2, 1, 1, "y")}
	told(t, busy(t), 2, 1, want)
}

// E1: all up to how far the node is, behind all that was told, and how many.
func TestNodeFar(t *testing.T) {
	held := []api.Msg{of(0, 0, 3, "a"), of(1, 0, 3, "b"), of(1, 0, 4, ""), of(0, 0, 6, "d")}
	before := []api.Msg{of(1, 0, 1, "p"), of(0, 0, 2, "q")}
	for far, many := range []int{0, 0, 0, 2, 3, 3, 4, 4} {
		want := pair(t, far, held[many:], append(before[:2:2], held[:many]...))
		told(t, pair(t, far, held, before), 0, many, want)
	}
}

// E1: told again, nothing is Ready any more.
func TestNodeTwice(t *testing.T) {
	w, many, e := Node(busy(t), 1)
	if many != 1 || e != api.OK {
		t.Fatalf("Node: %d, error %d", many, e)
	}
	told(t, w, 1, 0, w)
}

// E1: a node to whom nobody else is a member is told all up to its Clock.
func TestNodeAlone(t *testing.T) {
	w := begin(t, 3, 1)
	w.Nodes[0].Clock, w.Nodes[0].Held = 2, run(0, 1, 3)
	want := begin(t, 3, 1)
	want.Nodes[0].Clock, want.Nodes[0].Held, want.Nodes[0].Told = 2, run(0, 3, 1), run(0, 1, 2)
	told(t, w, 0, 2, want)
	told(t, w, 2, 0, w)
}

// E1: as many as may have been told, and one more.
func TestNodeMany(t *testing.T) {
	for _, was := range []int{0, 1, 20, api.MaxList - 1} {
		fits := api.MaxList - was
		held := run(1, 100, fits)
		told(t, pair(t, 200, held, run(1, 1, was)), 0, fits, pair(t, 200, nil, append(run(1, 1, was), held...)))
		if was > 0 {
			refused(t, "one too many", pair(t, 200, run(1, 100, fits+1), run(1, 1, was)), 0, api.ErrMany)
		}
	}
	full := run(1, 1, api.MaxList)
	told(t, pair(t, 99, run(1, 100, 2), full), 0, 0, pair(t, 99, run(1, 100, 2), full))
	refused(t, "full", pair(t, 100, run(1, 100, 2), full), 0, api.ErrMany)
	refused(t, "full twice over", pair(t, 200, run(1, 100, api.MaxList), full), 0, api.ErrMany)
}

// E1: what was told would not rise.
func TestNodeFalls(t *testing.T) {
	for _, x := range []struct {
		last, first api.Msg
		want        api.Errno
	}{
		{of(0, 0, 4, ""), of(0, 0, 5, ""), api.OK},
		{of(1, 0, 4, ""), of(0, 0, 5, ""), api.OK},
		{of(0, 0, 5, ""), of(1, 0, 5, ""), api.OK},
		{of(0, 0, 5, ""), of(0, 0, 5, ""), api.ErrForm},
		{of(0, 0, 5, "a"), of(0, 0, 5, "b"), api.ErrForm},
		{of(1, 0, 5, ""), of(0, 0, 5, ""), api.ErrForm},
		{of(0, 0, 6, ""), of(1, 0, 5, ""), api.ErrForm},
		{of(0, 0, api.MaxStamp, ""), of(0, 0, 5, ""), api.ErrForm},
	} {
		before := []api.Msg{of(1, 0, 1, ""), x.last}
		w := pair(t, 7, []api.Msg{x.first, of(1, 0, 7, ""), of(1, 0, 8, "")}, before)
		if x.want != api.OK {
			refused(t, fmt.Sprint(x.first, " behind ", x.last), w, 0, x.want)
			continue
		}
		told(t, w, 0, 2, pair(t, 7, []api.Msg{of(1, 0, 8, "")}, append(before, x.first, of(1, 0, 7, ""))))
	}
	// What is not Ready is not told, so it does not have to rise.
	w := pair(t, 4, []api.Msg{of(1, 0, 5, "")}, []api.Msg{of(0, 0, 9, "")})
	told(t, w, 0, 0, w)
}

// E1, P1: of both errors ErrMany is named first.
func TestNodeOrder(t *testing.T) {
	refused(t, "too many, and falling", pair(t, 5, run(1, 5, 1), run(1, 1, api.MaxList)), 0, api.ErrMany)
	refused(t, "too many, falling, no node", pair(t, 5, run(1, 5, 1), run(1, 1, api.MaxList)), 2, api.ErrNone)
}

// E1: there is no such node.
func TestNodeNone(t *testing.T) {
	for _, n := range []int{math.MinInt, -1 << 32, -1, 3, 4, 63, 64, 1 << 32, math.MaxInt} {
		refused(t, "no node", busy(t), n, api.ErrNone)
	}
}

// E1, P1: world.Check's errors, ahead of all others.
func TestNodeWrongWorld(t *testing.T) {
	for _, x := range []struct {
		name string
		want api.Errno
		do   func(w *api.World)
	}{
		{"no world", api.ErrRange, func(w *api.World) { *w = api.World{} }},
		{"five nodes", api.ErrRange, func(w *api.World) { w.Nodes = make([]api.Node, 5) }},
		{"no groups", api.ErrMany, func(w *api.World) { w.Groups = nil }},
		{"too many told", api.ErrMany, func(w *api.World) { w.Nodes[2].Told = make([]api.Msg, api.MaxList+1) }},
		{"a group of nobody", api.ErrForm, func(w *api.World) { w.Groups[0] = 0 }},
		{"short Last", api.ErrForm, func(w *api.World) { w.Nodes[1].Last[1] = nil }},
		{"no Wires", api.ErrForm, func(w *api.World) { w.Wires = nil }},
		{"held falls", api.ErrForm, func(w *api.World) { w.Nodes[1].Held[0].Stamp = 9 }},
		{"a Null is held", api.ErrForm, func(w *api.World) { w.Nodes[2].Held[0] = api.Msg{From: 2, Group: 1, Stamp: 1, Null: true} }},
	} {
		w := busy(t)
		x.do(&w)
		for n := -1; n <= 5; n++ {
			refused(t, x.name, w, n, x.want)
		}
	}
}
