package move

import (
	"fmt"
	"math"
	"testing"

	"furlong/api"
	"furlong/cast"
	"furlong/world"
)

// of is a message of node n to group g.
func of(n, g, stamp int, body string) api.Msg {
	return api.Msg{From: n, Group: g, Stamp: stamp, Body: body}
}

// null is a message that says nothing but its stamp.
func null(n, g, stamp int) api.Msg {
	return api.Msg{From: n, Group: g, Stamp: stamp, Null: true}
}

// run is a rising list of that many messages of node n to group 0, from Stamp first on.
func run(n, first, many int) []api.Msg {
	var l []api.Msg
	for i := range many {
		l = append(l, of(n, 0, first+i, "x"))
	}
	return l
}

// begin is the world of these nodes and groups, ahead of all messages.
func begin(t *testing.T, nodes int, l ...int) api.World {
	t.Helper()
	w, e := world.Begin(nodes, l)
	if e != api.OK {
		t.Fatalf("Begin(%d, %v): %d", nodes, l, e)
	}
	return w
}

// is asks that a call answered that world, and no error.
func is(t *testing.T, got api.World, e api.Errno, want api.World) {
	t.Helper()
	if e != api.OK || fmt.Sprintf("%+v", got) != fmt.Sprintf("%+v", want) {
		t.Errorf("error %d\n%+v\nnot\n%+v", e, got, want)
	}
	if e := world.Check(got); e != api.OK {
		t.Errorf("a world with error %d", e)
	}
}

// all asks that Wire answers that world, and how many came.
func all(t *testing.T, w api.World, from, to, many int, want api.World) {
	t.Helper()
	got, x, e := Wire(w, from, to)
	if x != many {
		t.Errorf("Wire from %d to %d: %d came, not %d", from, to, x, many)
	}
	is(t, got, e, want)
}

// empty asks that both calls answer these errors, and nothing else.
func empty(t *testing.T, name string, w api.World, from, to int, one, wire api.Errno) {
	t.Helper()
	got, e := One(w, from, to)
	if e != one || got.Groups != nil || got.Nodes != nil || got.Wires != nil {
		t.Errorf("One from %d to %d, %s: %+v, error %d, not %d", from, to, name, got, e, one)
	}
	got, many, e := Wire(w, from, to)
	if e != wire || many != 0 || got.Groups != nil || got.Nodes != nil || got.Wires != nil {
		t.Errorf("Wire from %d to %d, %s: %+v, %d, error %d, not %d", from, to, name, got, many, e, wire)
	}
}

// refused asks that both calls answer want, and nothing else.
func refused(t *testing.T, name string, w api.World, from, to int, want api.Errno) {
	t.Helper()
	empty(t, name, w, from, to, want, want)
}

// pair is a world of two nodes in one group, with these on their way to node 1.
func pair(t *testing.T, wire ...api.Msg) api.World {
	w := begin(t, 2, 3)
	w.Wires[0][1] = wire
	return w
}

// G1, the seventh example: hi comes to node 0: its clock is 1; it is told.
func TestOne(t *testing.T) {
	w, e := cast.Send(begin(t, 3, 3, 6), 1, 0, "hi")
	if e != api.OK {
		t.Fatalf("Send: %d", e)
	}
	want := begin(t, 3, 3, 6)
	want.Nodes[0] = api.Node{Clock: 1, Last: [][]int{{0, 1, 0}, {0, 0, 0}}, Told: []api.Msg{of(1, 0, 1, "hi")}}
	want.Nodes[1].Clock, want.Nodes[1].Held = 1, []api.Msg{of(1, 0, 1, "hi")}
	got, e := One(w, 1, 0)
	is(t, got, e, want)
	all(t, w, 1, 0, 1, want)
}

// G1: the first one comes, the others stay on the wire; Wire has all of them come.
func TestFirst(t *testing.T) {
	w := pair(t, of(0, 0, 3, "a"), null(0, 0, 4), of(0, 0, 6, "b"))
	w.Wires[1][0] = run(1, 1, 2)
	want := pair(t, null(0, 0, 4), of(0, 0, 6, "b"))
	want.Wires[1][0] = run(1, 1, 2)
	want.Nodes[1] = api.Node{Clock: 3, Last: [][]int{{3, 0}}, Told: []api.Msg{of(0, 0, 3, "a")}}
	w, e := One(w, 0, 1)
	is(t, w, e, want)
	want.Nodes[1].Clock, want.Nodes[1].Last[0][0] = 6, 6
	want.Nodes[1].Told = []api.Msg{of(0, 0, 3, "a"), of(0, 0, 6, "b")}
	want.Wires[0][1] = nil
	all(t, w, 0, 1, 2, want)
	all(t, want, 0, 1, 0, want)
}

// G1: a Null is not held; it sets Clock and Last, and lets others be told.
func TestNull(t *testing.T) {
	w := pair(t, null(0, 0, 5))
	w.Nodes[1].Clock, w.Nodes[1].Held = 4, []api.Msg{of(1, 0, 4, "mine"), of(1, 0, 6, "later")}
	want := pair(t)
	want.Nodes[1] = api.Node{Clock: 5, Last: [][]int{{5, 0}}, Held: []api.Msg{of(1, 0, 6, "later")}, Told: []api.Msg{of(1, 0, 4, "mine")}}
	got, e := One(w, 0, 1)
	is(t, got, e, want)
	all(t, w, 0, 1, 1, want)
}

// G1: Clock and Last are set on, each by itself, and never back.
func TestSetOn(t *testing.T) {
	for _, x := range []struct{ clock, last, newClock, newLast int }{
		{0, 0, 5, 5}, {4, 4, 5, 5}, {5, 5, 5, 5}, {6, 6, 6, 6}, {9, 2, 9, 5}, {2, 9, 5, 9}, {api.MaxStamp, 0, api.MaxStamp, 5},
	} {
		w := pair(t, null(0, 0, 5))
		w.Nodes[1].Clock, w.Nodes[1].Last[0][0] = x.clock, x.last
		want := pair(t)
		want.Nodes[1].Clock, want.Nodes[1].Last[0][0] = x.newClock, x.newLast
		got, e := One(w, 0, 1)
		is(t, got, e, want)
	}
}

// G1: Last is of the message's group, and of where it comes from; it is held,
// where it belongs, till both groups are so far; others are told nothing.
func TestGroups(t *testing.T) {
	w := begin(t, 3, 3, 7)
	w.Nodes[1].Held = []api.Msg{of(2, 1, 3, "p"), of(2, 1, 6, "q")}
	w.Nodes[2].Held = []api.Msg{of(2, 1, 1, "r")}
	w.Nodes[2].Clock, w.Nodes[2].Last[1] = 1, []int{1, 1, 0}
	w.Wires[0][1] = []api.Msg{of(0, 1, 5, "a"), of(0, 0, 7, "b"), null(0, 1, 8)}
	w.Wires[2][1] = []api.Msg{null(2, 1, 6)}
	w, e := One(w, 0, 1)
	want := begin(t, 3, 3, 7)
	want.Nodes[1] = api.Node{Clock: 5, Last: [][]int{{0, 0, 0}, {5, 0, 0}}, Held: []api.Msg{of(2, 1, 3, "p"), of(0, 1, 5, "a"), of(2, 1, 6, "q")}}
	want.Nodes[2] = api.Node{Clock: 1, Last: [][]int{{0, 0, 0}, {1, 1, 0}}, Held: []api.Msg{of(2, 1, 1, "r")}}
	want.Wires[0][1] = []api.Msg{of(0, 0, 7, "b"), null(0, 1, 8)}
	want.Wires[2][1] = []api.Msg{null(2, 1, 6)}
	is(t, w, e, want)
	want.Nodes[1].Clock, want.Nodes[1].Last = 8, [][]int{{7, 0, 0}, {8, 0, 0}}
	want.Nodes[1].Held = []api.Msg{of(2, 1, 3, "p"), of(0, 1, 5, "a"), of(2, 1, 6, "q"), of(0, 0, 7, "b")}
	want.Wires[0][1] = nil
	all(t, w, 0, 1, 2, want)
	told := []api.Msg{of(2, 1, 3, "p"), of(0, 1, 5, "a"), of(2, 1, 6, "q")}
	want.Nodes[1].Last[1][2], want.Nodes[1].Held, want.Nodes[1].Told = 6, []api.Msg{of(0, 0, 7, "b")}, told
	want.Wires[2][1] = nil
	w, _, _ = Wire(w, 0, 1)
	all(t, w, 2, 1, 1, want)
}

// G1: nothing is on the wire: One has an error, Wire has none. None ever is on
// one from a node to itself.
func TestEmpty(t *testing.T) {
	w := begin(t, 3, 3, 6)
	w.Wires[0][1] = run(0, 1, 2)
	for from := range 3 {
		for to := range 3 {
			if from == 0 && to == 1 {
				continue
			}
			got, e := One(w, from, to)
			if e != api.ErrEmpty || got.Nodes != nil {
				t.Errorf("One from %d to %d: %+v, error %d", from, to, got, e)
			}
			all(t, w, from, to, 0, w)
		}
	}
}

// G1: Wire tells nobody what was Ready, if nothing comes.
func TestNothingComes(t *testing.T) {
	w := begin(t, 1, 1)
	w.Nodes[0].Clock, w.Nodes[0].Held = 4, run(0, 1, 2)
	all(t, w, 0, 0, 0, w)
}

// G1: one of both, or both, are no node: ahead of ErrEmpty.
func TestNone(t *testing.T) {
	for _, x := range []int{math.MinInt, -1 << 32, -1, 3, 4, 63, 64, 1 << 32, math.MaxInt} {
		w := begin(t, 3, 3, 6)
		refused(t, "no node from", w, x, 1, api.ErrNone)
		refused(t, "no node to", w, 1, x, api.ErrNone)
		refused(t, "neither", w, x, x, api.ErrNone)
	}
}

// G1: msg.Put's errors; a Null asks for no room.
func TestHeld(t *testing.T) {
	on := func(held []api.Msg, wire ...api.Msg) api.World {
		w := pair(t, wire...)
		w.Nodes[1].Held = held
		return w
	}
	refused(t, "no room", on(run(1, 100, api.MaxList), of(0, 0, 5, "")), 0, 1, api.ErrMany)
	refused(t, "it is held", on(run(0, 100, 5), of(0, 0, 102, "other")), 0, 1, api.ErrForm)
	refused(t, "both", on(run(0, 100, api.MaxList), of(0, 0, 102, "")), 0, 1, api.ErrMany)
	w, e := One(on(run(1, 100, api.MaxList-1), of(0, 0, 105, "")), 0, 1)
	if e != api.OK || len(w.Nodes[1].Held)+len(w.Nodes[1].Told) != api.MaxList {
		t.Errorf("room for one: %+v, error %d", w, e)
	}
	want := on(run(1, 100, api.MaxList))
	want.Nodes[1].Clock, want.Nodes[1].Last[0][0] = 5, 5
	w, e = One(on(run(1, 100, api.MaxList), null(0, 0, 5)), 0, 1)
	is(t, w, e, want)
}

// G1: telling's errors.
func TestTold(t *testing.T) {
	on := func(told []api.Msg, wire ...api.Msg) api.World {
		w := pair(t, wire...)
		w.Nodes[1].Told = told
		return w
	}
	refused(t, "too many told", on(run(0, 1, api.MaxList), of(0, 0, 50, "")), 0, 1, api.ErrMany)
	refused(t, "what was told would fall", on(run(0, 9, 1), of(0, 0, 5, "")), 0, 1, api.ErrForm)
	refused(t, "it was told", on(run(0, 5, 1), of(0, 0, 5, "x")), 0, 1, api.ErrForm)
	refused(t, "both", on(run(0, 9, api.MaxList), of(0, 0, 5, "")), 0, 1, api.ErrMany)
	want := on(append(run(0, 1, api.MaxList-1), of(0, 0, 50, "")))
	want.Nodes[1].Clock, want.Nodes[1].Last[0][0] = 50, 50
	w, e := One(on(run(0, 1, api.MaxList-1), of(0, 0, 50, "")), 0, 1)
	is(t, w, e, want)
}

// G1: Wire answers the first error, though what comes ahead of it can come, and
// though what is behind it has another one.
func TestFirstError(t *testing.T) {
	w := pair(t, of(0, 0, 5, "a"), null(0, 0, 6), of(0, 0, 7, "b"), of(0, 0, 8, "c"))
	w.Nodes[1].Told = run(0, 1, 4)
	w.Nodes[1].Told = append(w.Nodes[1].Told, of(0, 0, 6, "told"))
	refused(t, "a falls", w, 0, 1, api.ErrForm)
	w.Nodes[1].Told = run(1, 1, 3)
	w.Nodes[1].Held = []api.Msg{of(0, 0, 8, "held")}
	if _, e := One(w, 0, 1); e != api.OK {
		t.Errorf("One: %d", e)
	}
	if x, many, e := Wire(w, 0, 1); x.Nodes != nil || many != 0 || e != api.ErrForm {
		t.Errorf("Wire: %+v, %d, error %d", x, many, e)
	}
	w.Nodes[1].Told = run(1, 1, api.MaxList-1)
	w.Wires[0][1] = []api.Msg{of(0, 0, 50, "a"), of(0, 0, 51, "b"), of(0, 0, 52, "c")}
	w.Nodes[1].Held = []api.Msg{of(0, 0, 52, "held")}
	if x, many, e := Wire(w, 0, 1); x.Nodes != nil || many != 0 || e != api.ErrMany {
		t.Errorf("Wire: %+v, %d, error %d", x, many, e)
	}
}

// G1: a full wire comes.
func TestFull(t *testing.T) {
	want := begin(t, 2, 3)
	want.Nodes[1] = api.Node{Clock: api.MaxStamp, Last: [][]int{{api.MaxStamp, 0}}, Told: run(0, api.MaxStamp-api.MaxList+1, api.MaxList)}
	all(t, pair(t, run(0, api.MaxStamp-api.MaxList+1, api.MaxList)...), 0, 1, api.MaxList, want)
}

// G1, P1: of several errors the one that is named first: each turn brings one
// more that is named ahead of those that are there.
func TestOrder(t *testing.T) {
	w := pair(t, of(0, 0, 5, "n"))
	w.Nodes[1].Told = run(0, 9, 1)
	from, to := 0, 1
	for _, x := range []struct {
		name      string
		one, wire api.Errno
		do        func()
	}{
		{"telling falls", api.ErrForm, api.ErrForm, func() {}},
		{"holding has no room", api.ErrMany, api.ErrMany, func() { w.Nodes[1].Held = run(1, 100, api.MaxList) }},
		{"no node", api.ErrNone, api.ErrNone, func() { to = 2 }},
		{"neither", api.ErrNone, api.ErrNone, func() { from = -1 }},
		{"a wrong Clock", api.ErrForm, api.ErrForm, func() { w.Nodes[0].Clock = api.MaxStamp + 1 }},
		{"too many held", api.ErrMany, api.ErrMany, func() { w.Nodes[0].Held = make([]api.Msg, api.MaxList+1) }},
		{"no nodes", api.ErrRange, api.ErrRange, func() { w.Nodes = nil }},
	} {
		x.do()
		empty(t, x.name, w, from, to, x.one, x.wire)
	}
}

// G1: world.Check's errors.
func TestWrongWorld(t *testing.T) {
	for _, x := range []struct {
		name string
		want api.Errno
		do   func(w *api.World)
	}{
		{"no world", api.ErrRange, func(w *api.World) { *w = api.World{} }},
		{"no groups", api.ErrMany, func(w *api.World) { w.Groups = nil }},
		{"too many on the wire", api.ErrMany, func(w *api.World) { w.Wires[0][1] = run(0, 1, api.MaxList+1) }},
		{"a group of nobody", api.ErrForm, func(w *api.World) { w.Groups[0] = 0 }},
		{"no Last", api.ErrForm, func(w *api.World) { w.Nodes[1].Last = nil }},
		{"no Wires", api.ErrForm, func(w *api.World) { w.Wires = nil }},
		{"on a wire to itself", api.ErrForm, func(w *api.World) { w.Wires[0][0] = run(0, 1, 1) }},
		{"to no member", api.ErrForm, func(w *api.World) { w.Wires[0][2] = run(0, 1, 1) }},
		{"of another", api.ErrForm, func(w *api.World) { w.Wires[0][1][0].From = 1 }},
	} {
		w := begin(t, 3, 3, 6)
		w.Wires[0][1] = run(0, 1, 2)
		x.do(&w)
		for n := -1; n <= 5; n++ {
			refused(t, x.name, w, 0, n, x.want)
			refused(t, x.name, w, n, 1, x.want)
		}
	}
}
