package cast

import (
	"fmt"
	"math"
	"strings"
	"testing"

	"furlong/api"
	"furlong/world"
)

// of is a message of node n to group g.
func of(n, g, stamp int, body string) api.Msg {
	return api.Msg{From: n, Group: g, Stamp: stamp, Body: body}
}

// null is a message that says nothing but its stamp.
func null(n, g, stamp int) api.Msg {
	return api.Msg{From: n, Group: g, Stamp: stamp, Null: true}
}

// run is a rising list of that many messages of node n to group g, from Stamp first on.
func run(n, g, first, many int) []api.Msg {
	var l []api.Msg
	for i := range many {
		l = append(l, of(n, g, first+i, "x"))
	}
	return l
}

// begin is the world of these nodes and groups, ahead of all messages.
func begin(t *testing.T, nodes int, l ...int) api.World {
	t.Helper()
	w, e := world.Begin(nodes, l)
	if e != api.OK {
		t.Fatalf("Begin(%d, %v): %d", nodes, l, e)
	}
	return w
}

// is asks that a call answered that world, and no error.
func is(t *testing.T, got api.World, e api.Errno, want api.World) {
	t.Helper()
	if e != api.OK || fmt.Sprintf("%+v", got) != fmt.Sprintf("%+v", want) {
		t.Errorf("error %d\n%+v\nnot\n%+v", e, got, want)
	}
	if e := world.Check(got); e != api.OK {
		t.Errorf("a world with error %d", e)
	}
}

// empty asks that a call answered that error, and nothing else.
func empty(t *testing.T, name string, got api.World, e, want api.Errno) {
	t.Helper()
	if e != want || got.Groups != nil || got.Nodes != nil || got.Wires != nil {
		t.Errorf("%s: %+v, error %d, not %d", name, got, e, want)
	}
}

// refused asks that both calls answer want, and nothing else.
func refused(t *testing.T, name string, w api.World, n, g int, want api.Errno) {
	t.Helper()
	got, e := Send(w, n, g, "x")
	empty(t, "Send, "+name, got, e, want)
	got, e = Null(w, n, g)
	empty(t, "Null, "+name, got, e, want)
}

// F1, the sixth example: hi of node 1 to group 0 is on its way to node 0.
func TestSend(t *testing.T) {
	want := begin(t, 3, 3, 6)
	want.Nodes[1].Clock, want.Nodes[1].Held = 1, []api.Msg{of(1, 0, 1, "hi")}
	want.Wires[1][0] = []api.Msg{of(1, 0, 1, "hi")}
	w, e := Send(begin(t, 3, 3, 6), 1, 0, "hi")
	is(t, w, e, want)
	want.Nodes[1].Clock, want.Nodes[1].Held = 2, []api.Msg{of(1, 0, 1, "hi"), of(1, 1, 2, "you")}
	want.Wires[1][2] = []api.Msg{of(1, 1, 2, "you")}
	w, e = Send(w, 1, 1, "you")
	is(t, w, e, want)
	want.Nodes[0].Clock, want.Nodes[0].Held = 1, []api.Msg{of(0, 0, 1, "")}
	want.Wires[0][1] = []api.Msg{of(0, 0, 1, "")}
	w, e = Send(w, 0, 0, "")
	is(t, w, e, want)
}

// F1: a Null is on its way, and is not held.
func TestNull(t *testing.T) {
	want := begin(t, 3, 3, 6)
	want.Nodes[1].Clock = 1
	want.Wires[1][0] = []api.Msg{null(1, 0, 1)}
	w, e := Null(begin(t, 3, 3, 6), 1, 0)
	is(t, w, e, want)
	want.Nodes[1].Clock = 2
	want.Wires[1][2] = []api.Msg{null(1, 1, 2)}
	w, e = Null(w, 1, 1)
	is(t, w, e, want)
	want.Nodes[1].Clock = 3
	want.Wires[1][0] = []api.Msg{null(1, 0, 1), null(1, 0, 3)}
	w, e = Null(w, 1, 0)
	is(t, w, e, want)
}

// F1: to each other member, and to nobody else, in all groups of four nodes.
func TestSendMembers(t *testing.T) {
	for mask := 1; mask < 16; mask++ {
		for n := range 4 {
			w, e := Send(begin(t, 4, 15, mask), n, 1, "b")
			if mask&(1<<n) == 0 {
				empty(t, fmt.Sprint(mask, n), w, e, api.ErrOut)
				continue
			}
			want := begin(t, 4, 15, mask)
			want.Nodes[n].Clock, want.Nodes[n].Held = 1, []api.Msg{of(n, 1, 1, "b")}
			for to := range 4 {
				if to != n && mask&(1<<to) != 0 {
					want.Wires[n][to] = []api.Msg{of(n, 1, 1, "b")}
				}
			}
			is(t, w, e, want)
		}
	}
}

// F1: who has no other members is told at once; what else is Ready is told, too.
func TestSendTells(t *testing.T) {
	want := begin(t, 2, 1)
	want.Nodes[0].Clock, want.Nodes[0].Told = 1, []api.Msg{of(0, 0, 1, "a")}
	w, e := Send(begin(t, 2, 1), 0, 0, "a")
	is(t, w, e, want)
	want.Nodes[0].Clock = 2
	w, e = Null(w, 0, 0)
	is(t, w, e, want)

	ahead := func() api.World {
		w := begin(t, 2, 3)
		w.Nodes[0] = api.Node{Clock: 4, Last: [][]int{{0, 9}}, Held: []api.Msg{of(1, 0, 4, "p"), of(1, 0, 5, "q"), of(1, 0, 6, "r")}, Told: []api.Msg{of(1, 0, 3, "o")}}
		return w
	}
	want = ahead()
	want.Nodes[0].Clock, want.Nodes[0].Held = 5, []api.Msg{of(1, 0, 6, "r")}
	want.Nodes[0].Told = []api.Msg{of(1, 0, 3, "o"), of(1, 0, 4, "p"), of(0, 0, 5, "mine"), of(1, 0, 5, "q")}
	want.Wires[0][1] = []api.Msg{of(0, 0, 5, "mine")}
	w, e = Send(ahead(), 0, 0, "mine")
	is(t, w, e, want)
	want.Nodes[0].Told = []api.Msg{of(1, 0, 3, "o"), of(1, 0, 4, "p"), of(1, 0, 5, "q")}
	want.Wires[0][1] = []api.Msg{null(0, 0, 5)}
	w, e = Null(ahead(), 0, 0)
	is(t, w, e, want)
}

// F1: it is held where it belongs, though others there have greater Stamps; the
// others' lists stay as they are, though something is Ready there.
func TestSendBetween(t *testing.T) {
	still := func() api.World {
		w := begin(t, 2, 3)
		w.Nodes[0].Clock, w.Nodes[0].Held = 4, []api.Msg{of(1, 0, 4, "p"), of(1, 0, 6, "r")}
		w.Nodes[1] = api.Node{Clock: 1, Last: [][]int{{1, 0}}, Held: []api.Msg{of(0, 0, 1, "ready")}}
		w.Wires[0][1] = []api.Msg{of(0, 0, 2, "s"), null(0, 0, 4)}
		return w
	}
	want := still()
	want.Nodes[0].Clock, want.Nodes[0].Held = 5, []api.Msg{of(1, 0, 4, "p"), of(0, 0, 5, "n"), of(1, 0, 6, "r")}
	want.Wires[0][1] = []api.Msg{of(0, 0, 2, "s"), null(0, 0, 4), of(0, 0, 5, "n")}
	w, e := Send(still(), 0, 0, "n")
	is(t, w, e, want)
}

// F1: the longest body, any bytes; one more is ErrForm.
func TestSendBody(t *testing.T) {
	for _, body := range []string{"", " ", "12345678", "\x00\xff\n\xc3\x28~ `"} {
		w, e := Send(begin(t, 2, 3), 0, 0, body)
		if e != api.OK || len(w.Wires[0][1]) != 1 || w.Wires[0][1][0] != of(0, 0, 1, body) || len(w.Nodes[0].Held) != 1 || w.Nodes[0].Held[0] != of(0, 0, 1, body) {
			t.Errorf("Send of %q: %+v, error %d", body, w, e)
		}
	}
	for _, body := range []string{"123456789", strings.Repeat("x", 1000), strings.Repeat("\x00", 9)} {
		w, e := Send(begin(t, 2, 3), 0, 0, body)
		empty(t, "a long body", w, e, api.ErrForm)
	}
}

// F1: the greatest Stamp is sent; a Clock that has it can go no further.
func TestClock(t *testing.T) {
	w := begin(t, 2, 3)
	w.Nodes[0].Clock = api.MaxStamp - 1
	x, e := Send(w, 0, 0, "z")
	if e != api.OK || x.Nodes[0].Clock != api.MaxStamp || x.Wires[0][1][0] != of(0, 0, api.MaxStamp, "z") {
		t.Errorf("Send: %+v, error %d", x, e)
	}
	refused(t, "no Stamp is left", x, 0, 0, api.ErrRange)
	x, e = Null(w, 0, 0)
	if e != api.OK || x.Nodes[0].Clock != api.MaxStamp || x.Wires[0][1][0] != null(0, 0, api.MaxStamp) {
		t.Errorf("Null: %+v, error %d", x, e)
	}
	refused(t, "no Stamp is left", x, 0, 0, api.ErrRange)
	if _, e := Null(x, 1, 0); e != api.OK {
		t.Errorf("the other one's Clock is no matter: %d", e)
	}
}

// F1: no node, no group, no member, in that order.
func TestWho(t *testing.T) {
	outside := []int{math.MinInt, -1 << 32, -1, 3, 4, 63, 64, 1 << 32, math.MaxInt}
	for _, x := range outside {
		refused(t, "no node", begin(t, 3, 3, 6), x, 0, api.ErrNone)
		refused(t, "no group", begin(t, 3, 3, 6), 0, x, api.ErrNone)
		refused(t, "neither", begin(t, 3, 3, 6), x, x, api.ErrNone)
	}
	refused(t, "no third group", begin(t, 3, 3, 6), 1, 2, api.ErrNone)
	refused(t, "no member", begin(t, 3, 3, 6), 0, 1, api.ErrOut)
	refused(t, "no member", begin(t, 3, 3, 6), 2, 0, api.ErrOut)
}

// F1: the wire has room for one, or for none; its last one may have no lesser
// Stamp; of both it is ErrMany. Others' wires, and back, are no matter.
func TestWires(t *testing.T) {
	on := func(clock int, wire []api.Msg) api.World {
		w := begin(t, 3, 3, 6)
		w.Nodes[0].Clock, w.Wires[0][1] = clock, wire
		w.Wires[1][0], w.Wires[1][2] = run(1, 0, 1, api.MaxList), run(1, 1, 1, api.MaxList)
		return w
	}
	w, e := Null(on(50, run(0, 0, 1, api.MaxList-1)), 0, 0)
	is(t, w, e, on(51, append(run(0, 0, 1, api.MaxList-1), null(0, 0, 51))))
	w, e = Null(on(5, run(0, 0, 5, 1)), 0, 0)
	is(t, w, e, on(6, append(run(0, 0, 5, 1), null(0, 0, 6))))
	refused(t, "full", on(50, run(0, 0, 1, api.MaxList)), 0, 0, api.ErrMany)
	refused(t, "the same Stamp", on(4, run(0, 0, 5, 1)), 0, 0, api.ErrForm)
	refused(t, "a greater Stamp", on(3, run(0, 0, 1, 5)), 0, 0, api.ErrForm)
	refused(t, "both", on(3, run(0, 0, 1, api.MaxList)), 0, 0, api.ErrMany)
}

// F1: node by node, of each one ErrMany, then ErrForm.
func TestWiresInOrder(t *testing.T) {
	full, late := run(1, 0, 1, api.MaxList), run(1, 0, 300, 1)
	for _, x := range []struct {
		wires [][]api.Msg
		want  api.Errno
	}{
		{[][]api.Msg{full, nil, nil, nil}, api.ErrMany},
		{[][]api.Msg{nil, nil, nil, full}, api.ErrMany},
		{[][]api.Msg{late, nil, nil, nil}, api.ErrForm},
		{[][]api.Msg{nil, nil, nil, late}, api.ErrForm},
		{[][]api.Msg{full, nil, late, late}, api.ErrMany},
		{[][]api.Msg{late, nil, nil, full}, api.ErrForm},
		{[][]api.Msg{nil, nil, late, full}, api.ErrForm},
		{[][]api.Msg{nil, nil, full, late}, api.ErrMany},
	} {
		w := begin(t, 4, 15)
		w.Nodes[1].Clock, w.Wires[1] = 100, x.wires
		refused(t, "a wire", w, 1, 0, x.want)
	}
}

// F1: msg.Put's errors, of what the node holds; a Null asks for no room.
func TestHeld(t *testing.T) {
	on := func(clock int, held []api.Msg) api.World {
		w := begin(t, 2, 3)
		w.Nodes[0].Clock, w.Nodes[0].Held = clock, held
		return w
	}
	w, e := Send(on(50, run(1, 0, 1, api.MaxList-1)), 0, 0, "n")
	if e != api.OK || len(w.Nodes[0].Held) != api.MaxList {
		t.Errorf("room for one: %+v, error %d", w, e)
	}
	w, e = Send(on(50, run(1, 0, 1, api.MaxList)), 0, 0, "n")
	empty(t, "room for none", w, e, api.ErrMany)
	w, e = Send(on(4, run(0, 0, 5, 1)), 0, 0, "n")
	empty(t, "the same one is held", w, e, api.ErrForm)
	w, e = Send(on(4, run(0, 0, 5, api.MaxList)), 0, 0, "n")
	empty(t, "both", w, e, api.ErrMany)
	for _, held := range [][]api.Msg{run(1, 0, 1, api.MaxList), run(0, 0, 5, 1)} {
		w, e = Null(on(4, held), 0, 0)
		want := on(5, held)
		want.Wires[0][1] = []api.Msg{null(0, 0, 5)}
		is(t, w, e, want)
	}
}

// F1: telling's errors.
func TestTold(t *testing.T) {
	on := func(clock int, held, told []api.Msg) api.World {
		w := begin(t, 1, 1)
		w.Nodes[0].Clock, w.Nodes[0].Held, w.Nodes[0].Told = clock, held, told
		return w
	}
	w, e := Send(on(50, nil, run(0, 0, 1, api.MaxList)), 0, 0, "n")
	empty(t, "Send, too many told", w, e, api.ErrMany)
	w, e = Send(on(50, nil, run(0, 0, 1, api.MaxList-1)), 0, 0, "n")
	is(t, w, e, on(51, nil, append(run(0, 0, 1, api.MaxList-1), of(0, 0, 51, "n"))))
	w, e = Null(on(50, nil, run(0, 0, 1, api.MaxList)), 0, 0)
	is(t, w, e, on(51, nil, run(0, 0, 1, api.MaxList)))
	refused(t, "what was told would fall", on(4, run(0, 0, 4, 1), run(0, 0, 9, 1)), 0, 0, api.ErrForm)
	refused(t, "too many, and falling", on(80, run(0, 0, 4, 1), run(0, 0, 9, api.MaxList)), 0, 0, api.ErrMany)
	w, e = Send(on(4, nil, run(0, 0, 5, 1)), 0, 0, "n")
	empty(t, "it was told", w, e, api.ErrForm)
	w, e = Null(on(4, nil, run(0, 0, 5, 1)), 0, 0)
	is(t, w, e, on(5, nil, run(0, 0, 5, 1)))
}

// F1, P1: of several errors the one that is named first: each turn brings one
// more that is named ahead of those that are there.
func TestOrder(t *testing.T) {
	w := begin(t, 3, 1, 6)
	w.Nodes[0].Clock, w.Nodes[0].Told = 4, run(0, 0, 9, 1)
	n, g, body := 0, 0, "n"
	for _, x := range []struct {
		name string
		want api.Errno
		do   func()
	}{
		{"telling falls", api.ErrForm, func() {}},
		{"holding has no room", api.ErrMany, func() { w.Nodes[0].Held = run(0, 0, 100, api.MaxList) }},
		{"a wire falls", api.ErrForm, func() {
			w.Groups[0], w.Wires[0][1] = 7, run(0, 0, 5, 1)
		}},
		{"a wire is full", api.ErrMany, func() { w.Wires[0][1] = run(0, 0, 1, api.MaxList) }},
		{"the Clock is at its end", api.ErrRange, func() { w.Nodes[0].Clock = api.MaxStamp }},
		{"the body is too long", api.ErrForm, func() { body = "123456789" }},
		{"no member", api.ErrOut, func() { g = 1 }},
		{"no group", api.ErrNone, func() { g = 2 }},
		{"no node", api.ErrNone, func() { n = 3 }},
		{"a wrong Clock", api.ErrForm, func() { w.Nodes[2].Clock = -1 }},
		{"too many on a wire", api.ErrMany, func() { w.Wires[2][1] = make([]api.Msg, api.MaxList+1) }},
		{"too many nodes", api.ErrRange, func() { w.Nodes = make([]api.Node, 5) }},
	} {
		x.do()
		got, e := Send(w, n, g, body)
		empty(t, x.name, got, e, x.want)
	}
}

// F1: world.Check's errors.
func TestWrongWorld(t *testing.T) {
	for _, x := range []struct {
		name string
		want api.Errno
		do   func(w *api.World)
	}{
		{"no world", api.ErrRange, func(w *api.World) { *w = api.World{} }},
		{"no groups", api.ErrMany, func(w *api.World) { w.Groups = nil }},
		{"four groups", api.ErrMany, func(w *api.World) { w.Groups = []int{3, 3, 3, 3} }},
		{"too many told", api.ErrMany, func(w *api.World) { w.Nodes[2].Told = make([]api.Msg, api.MaxList+1) }},
		{"a group of nobody", api.ErrForm, func(w *api.World) { w.Groups[0] = 0 }},
		{"no Last", api.ErrForm, func(w *api.World) { w.Nodes[1].Last = nil }},
		{"a short row of Wires", api.ErrForm, func(w *api.World) { w.Wires[0] = w.Wires[0][:1] }},
		{"a wire that falls", api.ErrForm, func(w *api.World) { w.Wires[0][1] = []api.Msg{null(0, 0, 2), null(0, 0, 1)} }},
	} {
		w := begin(t, 3, 3, 6)
		x.do(&w)
		for n := -1; n <= 5; n++ {
			refused(t, x.name, w, n, n, x.want)
		}
	}
}
