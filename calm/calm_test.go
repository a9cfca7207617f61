package calm

import (
	"fmt"
	"slices"
	"testing"

	"furlong/api"
	"furlong/cast"
	"furlong/move"
	"furlong/msg"
	"furlong/world"
)

// of is a message of node n to group g.
func of(n, g, stamp int, body string) api.Msg {
	return api.Msg{From: n, Group: g, Stamp: stamp, Body: body}
}

// null is a message that says nothing but its stamp.
func null(n, g, stamp int) api.Msg {
	return api.Msg{From: n, Group: g, Stamp: stamp, Null: true}
}

// run is a rising list of that many messages of node n to group 0, from Stamp first on.
func run(n, first, many int) []api.Msg {
	var l []api.Msg
	for i := range many {
		l = append(l, of(n, 0, first+i, "x"))
	}
	return l
}

// begin is the world of these nodes and groups, ahead of all messages.
func begin(t *testing.T, nodes int, l ...int) api.World {
	t.Helper()
	w, e := world.Begin(nodes, l)
	if e != api.OK {
		t.Fatalf("Begin(%d, %v): %d", nodes, l, e)
	}
	return w
}

// text is a world as a text; lists without elements are the same in it.
func text(w api.World) string { return fmt.Sprintf("%+v", w) }

// is asks that a call answered that world, and how many, and no error.
func is(t *testing.T, got api.World, many int, e api.Errno, want api.World, wantMany int) {
	t.Helper()
	if e != api.OK || many != wantMany || text(got) != text(want) {
		t.Errorf("%d, error %d\n%+v\nnot %d\n%+v", many, e, got, wantMany, want)
	}
	if e := world.Check(got); e != api.OK {
		t.Errorf("a world with error %d", e)
	}
}

// refused asks that the calls answer these errors, and nothing else; a call
// whose error is OK is not asked.
func refused(t *testing.T, name string, w api.World, drain, round, calm api.Errno) {
	t.Helper()
	nothing := func(call string, got api.World, many int, e, want api.Errno) {
		if want != api.OK && (e != want || many != 0 || got.Groups != nil || got.Nodes != nil || got.Wires != nil) {
			t.Errorf("%s, %s: %+v, %d, error %d, not %d", call, name, got, many, e, want)
		}
	}
	a, n, e := Drain(w)
	nothing("Drain", a, n, e, drain)
	b, m, f := Round(w)
	nothing("Round", b, m, f, round)
	c, g := Calm(w)
	nothing("Calm", c, 0, g, calm)
}

// steps is what becomes of w when these calls go on from it.
func steps(t *testing.T, w api.World, calls ...func(w api.World) (api.World, api.Errno)) api.World {
	t.Helper()
	for i, call := range calls {
		x, e := call(w)
		if e != api.OK {
			t.Fatalf("call %d: error %d", i, e)
		}
		w = x
	}
	return w
}

func send(n, g int, body string) func(w api.World) (api.World, api.Errno) {
	return func(w api.World) (api.World, api.Errno) { return cast.Send(w, n, g, body) }
}

func say(n, g int) func(w api.World) (api.World, api.Errno) {
	return func(w api.World) (api.World, api.Errno) { return cast.Null(w, n, g) }
}

// two is a world of three nodes and two groups, in which a of node 0 and b of
// node 2 are on their way to node 1.
func two(t *testing.T) api.World {
	return steps(t, begin(t, 3, 3, 6), send(0, 0, "a"), send(2, 1, "b"))
}

// H1: two come, and are told to node 1, which has heard from both; who sent
// them holds them still.
func TestDrain(t *testing.T) {
	want := begin(t, 3, 3, 6)
	want.Nodes[0].Clock, want.Nodes[0].Held = 1, []api.Msg{of(0, 0, 1, "a")}
	want.Nodes[1] = api.Node{Clock: 1, Last: [][]int{{1, 0, 0}, {0, 0, 1}}, Told: []api.Msg{of(0, 0, 1, "a"), of(2, 1, 1, "b")}}
	want.Nodes[2].Clock, want.Nodes[2].Held = 1, []api.Msg{of(2, 1, 1, "b")}
	w, many, e := Drain(two(t))
	is(t, w, many, e, want, 2)
	w, many, e = Drain(want)
	is(t, w, many, e, want, 0)
}

// H1, the eighth example: two come, then four Nulls: a is told ahead of b.
func TestRound(t *testing.T) {
	drained, _, _ := Drain(two(t))
	a, b := of(0, 0, 1, "a"), of(2, 1, 1, "b")
	want := begin(t, 3, 3, 6)
	want.Nodes[0] = api.Node{Clock: 2, Last: [][]int{{0, 2, 0}, {0, 0, 0}}, Told: []api.Msg{a}}
	want.Nodes[1] = api.Node{Clock: 3, Last: [][]int{{2, 0, 0}, {0, 0, 2}}, Told: []api.Msg{a, b}}
	want.Nodes[2] = api.Node{Clock: 3, Last: [][]int{{0, 0, 0}, {0, 3, 0}}, Told: []api.Msg{b}}
	w, many, e := Round(drained)
	is(t, w, many, e, want, 4)
	want.Nodes[0].Clock, want.Nodes[0].Last[0][1] = 4, 4
	want.Nodes[1].Clock, want.Nodes[1].Last = 5, [][]int{{3, 0, 0}, {0, 0, 4}}
	want.Nodes[2].Clock, want.Nodes[2].Last[1][1] = 5, 5
	w, many, e = Round(w)
	is(t, w, many, e, want, 4)
}

// H1: without a Drain ahead of it node 1 sends its Nulls before a and b come.
func TestRoundUndrained(t *testing.T) {
	a, b := of(0, 0, 1, "a"), of(2, 1, 1, "b")
	want := begin(t, 3, 3, 6)
	want.Nodes[0] = api.Node{Clock: 2, Last: [][]int{{0, 1, 0}, {0, 0, 0}}, Told: []api.Msg{a}}
	want.Nodes[1] = api.Node{Clock: 2, Last: [][]int{{2, 0, 0}, {0, 0, 2}}, Told: []api.Msg{a, b}}
	want.Nodes[2] = api.Node{Clock: 2, Last: [][]int{{0, 0, 0}, {0, 2, 0}}, Told: []api.Msg{b}}
	w, many, e := Round(two(t))
	is(t, w, many, e, want, 6)
}

// H1: Nulls of one node go to its groups, rising, ahead of those of the next
// one, and nothing comes till all are sent.
func TestRoundSends(t *testing.T) {
	want := begin(t, 4, 15, 9, 6)
	for n, groups := range [][]int{{0, 1}, {0, 2}, {0, 2}, {0, 1}} {
		for i, g := range groups {
			for to := range 4 {
				if to != n && want.Groups[g]&(1<<to) != 0 {
					want.Nodes[to].Last[g][n] = i + 1
				}
			}
		}
		want.Nodes[n].Clock = 2
	}
	w, many, e := Round(begin(t, 4, 15, 9, 6))
	is(t, w, many, e, want, 16)
}

// H1: nodes without other members, or in no group at all.
func TestAlone(t *testing.T) {
	w, e := Calm(begin(t, 3, 1))
	want := begin(t, 3, 1)
	want.Nodes[0].Clock = 4
	is(t, w, 0, e, want, 0)
	w, many, e := Round(begin(t, 1, 1, 1, 1))
	want = begin(t, 1, 1, 1, 1)
	want.Nodes[0].Clock = 3
	is(t, w, many, e, want, 0)
	w, many, e = Drain(begin(t, 1, 1))
	is(t, w, many, e, begin(t, 1, 1), 0)
}

// H1: Calm is a Drain and four Rounds, neither more nor fewer, as Clocks show.
func TestCalm(t *testing.T) {
	want := two(t)
	want, _, _ = Drain(want)
	for range 4 {
		want, _, _ = Round(want)
	}
	w, e := Calm(two(t))
	is(t, w, 0, e, want, 0)
	if w.Nodes[0].Clock != 8 || w.Nodes[1].Clock != 9 || w.Nodes[2].Clock != 9 {
		t.Errorf("Clocks %d %d %d", w.Nodes[0].Clock, w.Nodes[1].Clock, w.Nodes[2].Clock)
	}
	w, e = Calm(begin(t, 2, 3))
	want = begin(t, 2, 3)
	want.Nodes[0] = api.Node{Clock: 4, Last: [][]int{{0, 4}}}
	want.Nodes[1] = api.Node{Clock: 4, Last: [][]int{{4, 0}}}
	is(t, w, 0, e, want, 0)
}

// H1: wire by wire, from node 0 on: the first error is that of the first wire
// that has one.
func TestDrainOrder(t *testing.T) {
	many, form := run(0, 1, api.MaxList), []api.Msg{of(0, 0, api.MaxStamp, "")}
	for _, x := range []struct {
		one, other [2]int
	}{
		{[2]int{0, 1}, [2]int{0, 2}}, {[2]int{0, 1}, [2]int{1, 0}}, {[2]int{0, 2}, [2]int{1, 0}}, {[2]int{0, 2}, [2]int{2, 1}},
		{[2]int{1, 0}, [2]int{2, 1}}, {[2]int{1, 2}, [2]int{2, 0}}, {[2]int{2, 0}, [2]int{2, 1}},
	} {
		w := begin(t, 3, 7)
		for n := range w.Nodes {
			w.Nodes[n].Clock = 100
			w.Nodes[n].Last[0] = []int{200, 200, 200}
			w.Nodes[n].Last[0][n] = 0
		}
		w.Wires[x.one[0]][x.one[1]] = []api.Msg{of(x.one[0], 0, 90, "")}
		w.Wires[x.other[0]][x.other[1]] = []api.Msg{of(x.other[0], 0, 90, "")}
		if x.one[1] == x.other[1] {
			t.Fatalf("%v: both go to one node", x)
		}
		w.Nodes[x.one[1]].Told, w.Nodes[x.other[1]].Told = many, form
		refused(t, fmt.Sprint(x), w, api.ErrMany, api.ErrMany, api.ErrMany)
		w.Nodes[x.one[1]].Told, w.Nodes[x.other[1]].Told = form, many
		refused(t, fmt.Sprint(x), w, api.ErrForm, api.ErrForm, api.ErrForm)
	}
}

// H1: how many came of wires that are full.
func TestDrainMany(t *testing.T) {
	w := begin(t, 2, 3)
	w.Wires[0][1], w.Wires[1][0] = run(0, 1, api.MaxList), run(1, 1, api.MaxList-1)
	want := begin(t, 2, 3)
	want.Nodes[0] = api.Node{Clock: 39, Last: [][]int{{0, 39}}, Told: run(1, 1, api.MaxList-1)}
	want.Nodes[1] = api.Node{Clock: 40, Last: [][]int{{40, 0}}, Told: run(0, 1, api.MaxList)}
	got, many, e := Drain(w)
	is(t, got, many, e, want, 2*api.MaxList-1)
	// No Null has room on a full wire, but when it is drained.
	refused(t, "a full wire", w, api.OK, api.ErrMany, api.OK)
	if _, e := Calm(w); e != api.OK {
		t.Errorf("Calm: %d", e)
	}
}

// H1: casting's errors: there are as many Stamps left as are sent, or one less.
func TestNoStamps(t *testing.T) {
	at := func(clock int) api.World {
		w := begin(t, 1, 1, 1)
		w.Nodes[0].Clock = clock
		return w
	}
	w, many, e := Round(at(api.MaxStamp - 2))
	is(t, w, many, e, at(api.MaxStamp), 0)
	refused(t, "a Stamp is lacking", at(api.MaxStamp-1), api.OK, api.ErrRange, api.ErrRange)
	w, e = Calm(at(api.MaxStamp - 8))
	is(t, w, 0, e, at(api.MaxStamp), 0)
	refused(t, "a Stamp is lacking for Calm", at(api.MaxStamp-7), api.OK, api.OK, api.ErrRange)
	w, many, e = Drain(at(api.MaxStamp))
	is(t, w, many, e, at(api.MaxStamp), 0)
}

// H1: the first error is that of the Drain, then of the Rounds: of sending
// ahead of what comes.
func TestFirstError(t *testing.T) {
	w := begin(t, 2, 3)
	w.Nodes[1].Clock = api.MaxStamp
	w.Wires[0][1] = run(0, 5, 1)
	w.Nodes[1].Told = run(0, 9, 1)
	refused(t, "it falls, and no Stamp is left", w, api.ErrForm, api.ErrForm, api.ErrForm)
	w.Nodes[0].Clock = 5
	refused(t, "it falls, and no Stamp is left", w, api.ErrForm, api.ErrRange, api.ErrForm)
	w.Nodes[1].Told = nil
	refused(t, "no Stamp is left", w, api.OK, api.ErrRange, api.ErrRange)
}

// H1: what may not be told to a node is an error of what comes.
func TestTooManyTold(t *testing.T) {
	w := begin(t, 2, 3)
	w.Nodes[0] = api.Node{Clock: 50, Last: [][]int{{0, 50}}, Held: run(0, 51, 1), Told: run(0, 1, api.MaxList)}
	w.Nodes[1].Clock = 51
	refused(t, "one more is told", w, api.OK, api.ErrMany, api.ErrMany)
	w.Nodes[0].Told = run(0, 1, api.MaxList-1)
	got, e := Calm(w)
	if e != api.OK || len(got.Nodes[0].Told) != api.MaxList || len(got.Nodes[0].Held) != 0 {
		t.Errorf("Calm: %+v, error %d", got, e)
	}
}

// H1: world.Check's errors.
func TestWrongWorld(t *testing.T) {
	for _, x := range []struct {
		name string
		want api.Errno
		do   func(w *api.World)
	}{
		{"no world", api.ErrRange, func(w *api.World) { *w = api.World{} }},
		{"five nodes", api.ErrRange, func(w *api.World) { w.Nodes = make([]api.Node, 5) }},
		{"no groups", api.ErrMany, func(w *api.World) { w.Groups = nil }},
		{"too many on a wire", api.ErrMany, func(w *api.World) { w.Wires[0][1] = run(0, 1, api.MaxList+1) }},
		{"too many, no Stamp left", api.ErrMany, func(w *api.World) { w.Nodes[0].Clock, w.Nodes[2].Held = api.MaxStamp, run(0, 1, api.MaxList+1) }},
		{"a group of nobody", api.ErrForm, func(w *api.World) { w.Groups[0] = 0 }},
		{"a Clock too far", api.ErrForm, func(w *api.World) { w.Nodes[2].Clock = api.MaxStamp + 1 }},
		{"no Last", api.ErrForm, func(w *api.World) { w.Nodes[1].Last = nil }},
		{"no Wires", api.ErrForm, func(w *api.World) { w.Wires = nil }},
		{"on a wire to itself", api.ErrForm, func(w *api.World) { w.Wires[0][0] = run(0, 1, 1) }},
		{"the last wire falls", api.ErrForm, func(w *api.World) { w.Wires[2][1] = []api.Msg{null(2, 1, 2), null(2, 1, 2)} }},
	} {
		w := begin(t, 3, 3, 6)
		x.do(&w)
		refused(t, x.name, w, x.want, x.want, x.want)
	}
}

// draw has numbers for scripts; the same each time.
type draw uint64

func (d *draw) n(n int) int {
	*d = *d*6364136223846793005 + 1442695040888963407
	return int(uint64(*d) >> 33 % uint64(n))
}

// script is a world behind that many calls from its beginning on, and what was sent in it.
func script(r *draw, w api.World, many int) (api.World, []api.Msg) {
	var sent []api.Msg
	for k := range many {
		n, g := r.n(len(w.Nodes)), r.n(len(w.Groups))
		var x api.World
		var e api.Errno
		what := r.n(6)
		body := fmt.Sprint(k)
		switch what {
		case 0, 1:
			x, e = cast.Send(w, n, g, body)
		case 2:
			x, e = cast.Null(w, n, g)
		default:
			x, e = move.One(w, n, r.n(len(w.Nodes)))
		}
		if e != api.OK {
			continue
		}
		if w = x; what < 2 {
			sent = append(sent, of(n, g, w.Nodes[n].Clock, body))
		}
	}
	return w, sent
}

// told is what is told to node n in a calm world: all that was sent to its groups, rising.
func told(l []int, sent []api.Msg, n int) []api.Msg {
	var out []api.Msg
	for _, m := range sent {
		if l[m.Group]&(1<<n) != 0 {
			out = append(out, m)
		}
	}
	slices.SortFunc(out, func(a, b api.Msg) int {
		if msg.Less(a, b) {
			return -1
		}
		return 1
	})
	return out
}

// H2: whatever was done from the beginning on, in a calm world nobody holds
// anything, nothing is on its way, and each message was told to all members of
// its group, once, in one order.
func TestNobodyHolds(t *testing.T) {
	r := draw(8)
	messages, held := 0, 0
	for k := range 400 {
		nodes := 1 + r.n(4)
		l := make([]int, 1+r.n(3))
		for g := range l {
			l[g] = 1 + r.n(1<<nodes-1)
		}
		w, sent := script(&r, begin(t, nodes, l...), r.n(80))
		for _, x := range w.Nodes {
			held += len(x.Held)
		}
		calm, e := Calm(w)
		if e != api.OK {
			t.Fatalf("script %d: Calm: %d", k, e)
		}
		messages += len(sent)
		for n, x := range calm.Nodes {
			if len(x.Held) > 0 || !slices.Equal(x.Told, told(l, sent, n)) {
				t.Fatalf("script %d, groups %v: node %d holds %v, and was told %v, not %v", k, l, n, x.Held, x.Told, told(l, sent, n))
			}
			for to, wire := range calm.Wires[n] {
				if len(wire) > 0 {
					t.Fatalf("script %d: %v is on its way from %d to %d", k, wire, n, to)
				}
			}
		}
	}
	if messages < 1000 || held < 500 {
		t.Errorf("too little was done: %d sent, %d held", messages, held)
	}
}

// H2: groups in a chain: one far ahead of the others is heard of by all that
// its message must wait for.
func TestChain(t *testing.T) {
	w := begin(t, 4, 3, 6, 12)
	for range 30 {
		w = steps(t, w, say(0, 0))
	}
	w = steps(t, w, send(0, 0, "far"), send(3, 2, "near"), send(1, 1, "mid"))
	w, e := Calm(w)
	if e != api.OK {
		t.Fatalf("Calm: %d", e)
	}
	far, near, mid := of(0, 0, 31, "far"), of(3, 2, 1, "near"), of(1, 1, 1, "mid")
	for n, want := range [][]api.Msg{{far}, {mid, far}, {mid, near}, {near}} {
		if len(w.Nodes[n].Held) > 0 || !slices.Equal(w.Nodes[n].Told, want) {
			t.Errorf("node %d holds %v, and was told %v, not %v", n, w.Nodes[n].Held, w.Nodes[n].Told, want)
		}
	}
}
