package world

import (
	"math"
	"reflect"
	"strings"
	"testing"

	"furlong/api"
	"furlong/groups"
)

// of is a message of node n to group g.
func of(n, g, stamp int, body string) api.Msg {
	return api.Msg{From: n, Group: g, Stamp: stamp, Body: body}
}

// null is a message that says nothing but its stamp.
func null(n, g, stamp int) api.Msg {
	return api.Msg{From: n, Group: g, Stamp: stamp, Null: true}
}

// run is a rising list of that many messages of node n to group g.
func run(n, g, many int) []api.Msg {
	var l []api.Msg
	for i := range many {
		l = append(l, of(n, g, i+1, "x"))
	}
	return l
}

// busy is a right world: nodes 0 and 1 in group 0, 1 and 2 in group 1, node 3
// in group 2 alone; all lists have something in them, as far as they may.
func busy() api.World {
	return api.World{
		Groups: []int{3, 6, 8},
		Nodes: []api.Node{
			{Clock: 3, Last: [][]int{{0, 2, 0, 0}, {0, 0, 0, 0}, {0, 0, 0, 0}}, Held: []api.Msg{of(0, 0, 3, "d")}, Told: []api.Msg{of(0, 0, 1, "a"), of(1, 0, 2, "b")}},
			{Clock: 4, Last: [][]int{{1, 0, 0, 0}, {0, 0, 4, 0}, {0, 0, 0, 0}}, Held: []api.Msg{of(1, 0, 2, "b"), of(1, 1, 4, "c"), of(2, 1, 4, "e")}, Told: []api.Msg{of(0, 0, 1, "a")}},
			{Clock: 5, Last: [][]int{{0, 0, 0, 0}, {0, 0, 0, 0}, {0, 0, 0, 0}}},
			{Clock: 0, Last: [][]int{{0, 0, 0, 0}, {0, 0, 0, 0}, {0, 0, 0, 0}}, Held: []api.Msg{of(3, 2, 9, "")}},
		},
		Wires: [][][]api.Msg{
			{nil, {of(0, 0, 3, "d"), null(0, 0, 5)}, nil, nil},
			{{null(1, 0, 3)}, nil, {of(1, 1, 4, "c"), of(1, 1, 7, "")}, nil},
			{nil, {null(2, 1, 5), of(2, 1, 6, "12345678")}, nil, nil},
			{nil, nil, nil, nil},
		},
	}
}

// clone is w in memory of its own, each list with spare room that is filled.
func clone(w api.World) api.World {
	out := api.World{Groups: roomy(w.Groups, 77), Nodes: roomy(w.Nodes, api.Node{Clock: 77}), Wires: roomy(w.Wires, [][]api.Msg{{of(7, 7, 7, "7")}})}
	for n := range out.Nodes {
		x := &out.Nodes[n]
		x.Last, x.Held, x.Told = roomy(x.Last, []int{77}), roomy(x.Held, of(7, 7, 7, "7")), roomy(x.Told, of(7, 7, 7, "7"))
		for g := range x.Last {
			x.Last[g] = roomy(x.Last[g], 77)
		}
	}
	for a := range out.Wires {
		out.Wires[a] = roomy(out.Wires[a], []api.Msg{of(7, 7, 7, "7")})
		for b := range out.Wires[a] {
			out.Wires[a][b] = roomy(out.Wires[a][b], of(7, 7, 7, "7"))
		}
	}
	return out
}

func roomy[T any](l []T, fill T) []T {
	out := make([]T, 0, len(l)+2)
	out = append(append(out, l...), fill, fill)
	return out[:len(l)]
}

// C1, the third example: three nodes and two groups.
func TestBegin(t *testing.T) {
	w, e := Begin(3, []int{3, 6})
	if e != api.OK {
		t.Fatalf("Begin: %d", e)
	}
	zero := func() [][]int { return [][]int{{0, 0, 0}, {0, 0, 0}} }
	row := func() [][]api.Msg { return [][]api.Msg{nil, nil, nil} }
	want := api.World{
		Groups: []int{3, 6},
		Nodes:  []api.Node{{Last: zero()}, {Last: zero()}, {Last: zero()}},
		Wires:  [][][]api.Msg{row(), row(), row()},
	}
	if !reflect.DeepEqual(w, want) {
		t.Errorf("Begin: %v, not %v", w, want)
	}
}

// each goes through lists of up to four groups, right and wrong.
func each(do func(l []int)) {
	masks := []int{math.MinInt, -1, 0, 1, 2, 3, 4, 5, 6, 7, 8, 9, 14, 15, 16, 17, math.MaxInt}
	do(nil)
	for _, a := range masks {
		do([]int{a})
		for _, b := range masks {
			do([]int{a, b})
			for _, c := range masks {
				do([]int{a, b, c})
			}
			do([]int{a, b, 1, 1})
		}
	}
}

// C1: Begin has groups.Check's errors, and answers nothing else then; what
// begins has nothing in it, and is right.
func TestBeginAll(t *testing.T) {
	for _, nodes := range []int{math.MinInt, -1, 0, 1, 2, 3, 4, 5, 64, math.MaxInt} {
		each(func(l []int) {
			w, e := Begin(nodes, l)
			if want := groups.Check(nodes, l); e != want {
				t.Fatalf("Begin(%d, %v): %d, not %d", nodes, l, e, want)
			}
			if e != api.OK {
				if !reflect.DeepEqual(w, api.World{}) {
					t.Fatalf("Begin(%d, %v): error %d, and %v", nodes, l, e, w)
				}
				return
			}
			begun(t, w, nodes, l)
		})
	}
}

// begun asks that w is the world of these nodes and groups, and nothing is in it.
func begun(t *testing.T, w api.World, nodes int, l []int) {
	t.Helper()
	if !reflect.DeepEqual(w.Groups, l) || len(w.Nodes) != nodes || len(w.Wires) != nodes {
		t.Fatalf("Begin(%d, %v): %v", nodes, l, w)
	}
	for n, x := range w.Nodes {
		if x.Clock != 0 || len(x.Held) != 0 || len(x.Told) != 0 || len(x.Last) != len(l) || len(w.Wires[n]) != nodes {
			t.Fatalf("Begin(%d, %v): node %d is %v, its wires %v", nodes, l, n, x, w.Wires[n])
		}
		for g := range x.Last {
			if !reflect.DeepEqual(x.Last[g], make([]int, nodes)) {
				t.Fatalf("Begin(%d, %v): node %d has Last %v", nodes, l, n, x.Last)
			}
		}
		for k, wire := range w.Wires[n] {
			if len(wire) != 0 {
				t.Fatalf("Begin(%d, %v): %v on the way from %d to %d", nodes, l, wire, n, k)
			}
		}
	}
	if e := Check(w); e != api.OK {
		t.Fatalf("Check of Begin(%d, %v): %d", nodes, l, e)
	}
}

// C1, P2, P3: what begins is new memory, list by list, spare room and all.
func TestBeginMemory(t *testing.T) {
	l := roomy([]int{3, 6}, 77)
	w, _ := Begin(3, l)
	numbers := [][]int{l, w.Groups}
	for _, x := range w.Nodes {
		numbers = append(numbers, x.Last...)
	}
	for i, a := range numbers {
		for k := range a[:cap(a)] {
			a[:cap(a)][k] = 1000 + i
		}
	}
	for i, a := range numbers {
		for _, x := range a[:cap(a)] {
			if x != 1000+i {
				t.Fatalf("list %d shares memory with list %d", i, x-1000)
			}
		}
	}
	for a := range w.Nodes {
		for b := range w.Nodes {
			w.Wires[a][b] = append(w.Wires[a][b], of(a, 0, b+1, ""))
			w.Nodes[a].Held = append(w.Nodes[a].Held, of(a, 0, b+10, ""))
		}
		w.Wires[a] = append(w.Wires[a], nil)
		w.Nodes[a].Last = append(w.Nodes[a].Last, nil)
	}
	for a := range w.Nodes {
		for b := range w.Nodes {
			if wire := w.Wires[a][b]; len(wire) != 1 || wire[0] != of(a, 0, b+1, "") {
				t.Fatalf("the wire from %d to %d has %v", a, b, wire)
			}
		}
	}
	l = []int{3, 6}
	first, _ := Begin(3, l)
	l[0] = 1
	first.Nodes[0].Last[0][1] = 5
	again, _ := Begin(3, []int{3, 6})
	if first.Groups[0] != 3 || again.Nodes[0].Last[0][1] != 0 {
		t.Errorf("%v and %v know of a later change", first, again)
	}
}

// turn is a change of a busy world.
type turn struct {
	name string
	do   func(w *api.World)
}

// ask holds Check's answers against want, for each change.
func ask(t *testing.T, want api.Errno, turns []turn) {
	t.Helper()
	for _, x := range turns {
		w := busy()
		x.do(&w)
		if e := Check(w); e != want {
			t.Errorf("Check, %s: %d, not %d", x.name, e, want)
		}
	}
}

// C2: what may be, up to its edges.
func TestCheckRight(t *testing.T) {
	ask(t, api.OK, []turn{
		{"nothing changed", func(w *api.World) {}},
		{"a Clock is 0", func(w *api.World) { w.Nodes[0].Clock = 0 }},
		{"a Clock is the greatest", func(w *api.World) { w.Nodes[0].Clock = api.MaxStamp }},
		{"a Last is the greatest", func(w *api.World) { w.Nodes[0].Last[0][1] = api.MaxStamp }},
		{"a Last is 0", func(w *api.World) { w.Nodes[0].Last[0][1] = 0 }},
		{"a Last of a node itself", func(w *api.World) { w.Nodes[0].Last[0][0] = 9 }},
		{"a Last beyond the Clock", func(w *api.World) { w.Nodes[1].Last[1][2] = 99 }},
		{"held: the greatest Stamp", func(w *api.World) { w.Nodes[0].Held[0].Stamp = api.MaxStamp }},
		{"held: the least Stamp", func(w *api.World) { w.Nodes[0].Held[0].Stamp = 1 }},
		{"held: the greatest Body", func(w *api.World) { w.Nodes[0].Held[0].Body = "\x00\xff345678" }},
		{"held: as many as may be", func(w *api.World) { w.Nodes[0].Held = run(0, 0, api.MaxList) }},
		{"told: as many as may be", func(w *api.World) { w.Nodes[1].Told = run(2, 1, api.MaxList) }},
		{"a wire: as many as may be", func(w *api.World) { w.Wires[2][1] = run(2, 1, api.MaxList) }},
		{"held: one Stamp, From rises", func(w *api.World) { w.Nodes[1].Held = []api.Msg{of(0, 0, 4, ""), of(1, 0, 4, ""), of(2, 1, 4, "")} }},
		{"told and held at once", func(w *api.World) { w.Nodes[0].Held = w.Nodes[0].Told }},
		{"held ahead of what was told", func(w *api.World) { w.Nodes[0].Held[0].Stamp, w.Nodes[0].Told[1].Stamp = 2, 9 }},
		{"a wire in two groups", func(w *api.World) { w.Groups[2] = 11; w.Wires[0][1][1].Group = 2 }},
		{"a wire beyond a Clock", func(w *api.World) { w.Wires[0][1][1].Stamp = 1 << 19 }},
		{"a message told to nobody yet", func(w *api.World) { w.Nodes[1].Told = nil }},
		{"empty lists", func(w *api.World) {
			w.Nodes[0].Held, w.Nodes[0].Told, w.Wires[0][1] = []api.Msg{}, []api.Msg{}, []api.Msg{}
		}},
	})
	alone := api.World{Groups: []int{1}, Nodes: []api.Node{{Last: [][]int{{0}}}}, Wires: [][][]api.Msg{{nil}}}
	if e := Check(alone); e != api.OK {
		t.Errorf("Check of a node alone: %d", e)
	}
}

// C2: groups.Check's errors, of as many nodes as there are.
func TestCheckGroups(t *testing.T) {
	ask(t, api.ErrRange, []turn{
		{"no nodes", func(w *api.World) { w.Nodes = nil }},
		{"five nodes", func(w *api.World) { w.Nodes = append(w.Nodes, w.Nodes[3]) }},
		{"nothing at all", func(w *api.World) { *w = api.World{} }},
	})
	ask(t, api.ErrMany, []turn{
		{"no groups", func(w *api.World) { w.Groups = nil }},
		{"four groups", func(w *api.World) { w.Groups = append(w.Groups, 1) }},
	})
	ask(t, api.ErrForm, []turn{
		{"a group of nobody", func(w *api.World) { w.Groups[2] = 0 }},
		{"a group below 0", func(w *api.World) { w.Groups[2] = -8 }},
		{"a member beyond the nodes", func(w *api.World) { w.Groups[2] = 24 }},
		{"fewer nodes than members", func(w *api.World) { w.Nodes = w.Nodes[:3] }},
	})
	for n := range 6 {
		each(func(l []int) {
			want := groups.Check(n, l)
			if e := Check(api.World{Groups: l, Nodes: make([]api.Node, n)}); want != api.OK && e != want {
				t.Fatalf("Check of %d nodes in %v: %d, not %d", n, l, e, want)
			}
		})
	}
}

// C2: more than there may be.
func TestCheckMany(t *testing.T) {
	const over = api.MaxList + 1
	ask(t, api.ErrMany, []turn{
		{"held", func(w *api.World) { w.Nodes[0].Held = run(0, 0, over) }},
		{"held by the last one", func(w *api.World) { w.Nodes[3].Held = run(3, 2, over) }},
		{"told", func(w *api.World) { w.Nodes[0].Told = run(1, 0, over) }},
		{"told to the last one", func(w *api.World) { w.Nodes[3].Told = run(3, 2, over) }},
		{"a wire", func(w *api.World) { w.Wires[0][1] = run(0, 0, over) }},
		{"another wire", func(w *api.World) { w.Wires[2][1] = run(2, 1, over) }},
		{"the last wire", func(w *api.World) { w.Wires[3][3] = run(3, 2, over) }},
		{"a wire of no node", func(w *api.World) { w.Wires = append(w.Wires, [][]api.Msg{nil, run(0, 0, over)}) }},
		{"a wire to no node", func(w *api.World) { w.Wires[0] = append(w.Wires[0], run(0, 0, over)) }},
		{"much more", func(w *api.World) { w.Nodes[0].Told = make([]api.Msg, 1<<16) }},
	})
}

// C2: the lists of a world are as many as its nodes and groups ask for.
func TestCheckShape(t *testing.T) {
	ask(t, api.ErrForm, []turn{
		{"no Wires", func(w *api.World) { w.Wires = nil }},
		{"too few Wires", func(w *api.World) { w.Wires = w.Wires[:3] }},
		{"too many Wires", func(w *api.World) { w.Wires = append(w.Wires, w.Wires[3]) }},
		{"no wires of the first node", func(w *api.World) { w.Wires[0] = nil }},
		{"no wires of the last node", func(w *api.World) { w.Wires[3] = nil }},
		{"too few wires", func(w *api.World) { w.Wires[0] = w.Wires[0][:3] }},
		{"too many wires", func(w *api.World) { w.Wires[3] = append(w.Wires[3], nil) }},
		{"no Last", func(w *api.World) { w.Nodes[0].Last = nil }},
		{"too few Last", func(w *api.World) { w.Nodes[3].Last = w.Nodes[3].Last[:2] }},
		{"too many Last", func(w *api.World) { w.Nodes[2].Last = append(w.Nodes[2].Last, []int{0, 0, 0, 0}) }},
		{"no Last of a group", func(w *api.World) { w.Nodes[1].Last[2] = nil }},
		{"too few Last of a group", func(w *api.World) { w.Nodes[3].Last[0] = []int{0, 0, 0} }},
		{"too many Last of a group", func(w *api.World) { w.Nodes[0].Last[1] = make([]int, 5) }},
	})
}

// C2: the bounds of a Clock and of a Last.
func TestCheckNumbers(t *testing.T) {
	for _, x := range []int{math.MinInt, -1 << 32, -1, api.MaxStamp + 1, 1 << 32, math.MaxInt} {
		ask(t, api.ErrForm, []turn{
			{"the Clock of the first node", func(w *api.World) { w.Nodes[0].Clock = x }},
			{"the Clock of the last node", func(w *api.World) { w.Nodes[3].Clock = x }},
			{"a Last", func(w *api.World) { w.Nodes[0].Last[0][1] = x }},
			{"a Last of its own", func(w *api.World) { w.Nodes[0].Last[0][0] = x }},
			{"the last Last", func(w *api.World) { w.Nodes[3].Last[2][3] = x }},
			{"a Last of no member", func(w *api.World) { w.Nodes[0].Last[0][3] = x }},
		})
	}
}

// C2: a Last is 0, unless both nodes are members of the group.
func TestCheckLast(t *testing.T) {
	for n := range 4 {
		for k := range 4 {
			for g := range 3 {
				w := busy()
				w.Nodes[n].Last[g][k] = 1
				want := api.ErrForm
				if mask := w.Groups[g]; mask&(1<<n) != 0 && mask&(1<<k) != 0 {
					want = api.OK
				}
				if e := Check(w); e != want {
					t.Errorf("Check, a Last of %d, group %d, node %d: %d, not %d", n, g, k, e, want)
				}
			}
		}
	}
}

// C2: what is held, was told, or is on a wire rises.
func TestCheckRises(t *testing.T) {
	ask(t, api.ErrForm, []turn{
		{"held: the lesser Stamp behind", func(w *api.World) { w.Nodes[1].Held[0].Stamp = 5 }},
		{"held: one Stamp, From falls", func(w *api.World) { w.Nodes[1].Held = []api.Msg{of(2, 1, 4, ""), of(1, 1, 4, "")} }},
		{"held: one twice", func(w *api.World) { w.Nodes[0].Held = append(w.Nodes[0].Held, w.Nodes[0].Held[0]) }},
		{"held: Stamp and From twice", func(w *api.World) { w.Nodes[1].Held = []api.Msg{of(1, 0, 4, "a"), of(1, 1, 4, "b")} }},
		{"held: the last two fall", func(w *api.World) { w.Nodes[1].Held[2].Stamp = 3 }},
		{"told: the lesser Stamp behind", func(w *api.World) { w.Nodes[0].Told[0].Stamp = 3 }},
		{"told: one Stamp, From falls", func(w *api.World) { w.Nodes[0].Told = []api.Msg{of(1, 0, 4, ""), of(0, 0, 4, "")} }},
		{"told: one twice", func(w *api.World) { w.Nodes[0].Told[1] = w.Nodes[0].Told[0] }},
		{"a wire: the lesser Stamp behind", func(w *api.World) { w.Wires[0][1][0].Stamp = 6 }},
		{"a wire: one Stamp twice", func(w *api.World) { w.Wires[0][1][0].Stamp = 5 }},
		{"the last wire: one Stamp twice", func(w *api.World) { w.Wires[2][1][0].Stamp = 6 }},
	})
}

// C2: each message is right; whatever is wrong with it, it is ErrForm here.
func TestCheckMessages(t *testing.T) {
	for _, x := range []struct {
		name string
		do   func(m *api.Msg)
	}{
		{"Stamp 0", func(m *api.Msg) { m.Stamp = 0 }},
		{"Stamp below 0", func(m *api.Msg) { m.Stamp = -1 }},
		{"Stamp beyond", func(m *api.Msg) { m.Stamp = api.MaxStamp + 1 }},
		{"From below 0", func(m *api.Msg) { m.From = -1 }},
		{"From no node", func(m *api.Msg) { m.From = 4 }},
		{"From no member", func(m *api.Msg) { m.From = 3 }},
		{"no group", func(m *api.Msg) { m.Group = -1 }},
		{"no such group", func(m *api.Msg) { m.Group = 3 }},
		{"a long Body", func(m *api.Msg) { m.Body = strings.Repeat("x", api.MaxBody+1) }},
		{"Null with a Body", func(m *api.Msg) { m.Null = true; m.Body = "x" }},
		{"another group", func(m *api.Msg) { m.Group = 2 }},
	} {
		ask(t, api.ErrForm, []turn{
			{"held: " + x.name, func(w *api.World) { x.do(&w.Nodes[0].Held[0]) }},
			{"told: " + x.name, func(w *api.World) { w.Nodes[0].Told = w.Nodes[0].Told[:1]; x.do(&w.Nodes[0].Told[0]) }},
			{"a wire: " + x.name, func(w *api.World) { w.Wires[0][1] = w.Wires[0][1][:1]; x.do(&w.Wires[0][1][0]) }},
		})
	}
}

// C2: a message is in a group of the one that has it, or will, and on a wire
// it is From where that begins; no Null is held, or was told.
func TestCheckPlaces(t *testing.T) {
	ask(t, api.ErrForm, []turn{
		{"held: right, in no group of the node", func(w *api.World) { w.Nodes[0].Held[0] = of(1, 1, 3, "d") }},
		{"told: right, in no group of the node", func(w *api.World) { w.Nodes[0].Told[1] = of(2, 1, 3, "d") }},
		{"told to a node that is in none of these", func(w *api.World) { w.Nodes[3].Told = []api.Msg{of(0, 0, 1, "")} }},
		{"a wire: right, in no group of where it goes", func(w *api.World) { w.Wires[1][0][0].Group = 1 }},
		{"a wire to one that shares no group", func(w *api.World) { w.Wires[0][3] = []api.Msg{of(0, 0, 1, "")} }},
		{"a wire: of the one to which it goes", func(w *api.World) { w.Wires[0][1][0].From = 1 }},
		{"a wire: the last of another", func(w *api.World) { w.Groups[0] = 7; w.Wires[0][1][1].From = 2 }},
		{"a wire to itself", func(w *api.World) { w.Wires[0][0] = []api.Msg{of(0, 0, 1, "")} }},
		{"a Null on a wire to itself", func(w *api.World) { w.Wires[3][3] = []api.Msg{null(3, 2, 1)} }},
		{"held: a Null", func(w *api.World) { w.Nodes[0].Held[0] = null(0, 0, 3) }},
		{"held: the last is a Null", func(w *api.World) { w.Nodes[1].Held[2] = null(2, 1, 4) }},
		{"told: a Null", func(w *api.World) { w.Nodes[0].Told[0] = null(0, 0, 1) }},
		{"told: the last is a Null", func(w *api.World) { w.Nodes[0].Told[1] = null(1, 0, 2) }},
	})
}

// C2, P1: of several errors the one that is named first.
func TestCheckOrder(t *testing.T) {
	over := make([]api.Msg, api.MaxList+1)
	ask(t, api.ErrRange, []turn{
		{"five nodes, no groups, too many held", func(w *api.World) { w.Nodes = make([]api.Node, 5); w.Groups = nil; w.Nodes[0].Held = over }},
		{"no nodes, too many on a wire", func(w *api.World) { w.Nodes = nil; w.Wires[0][1] = over }},
	})
	ask(t, api.ErrForm, []turn{
		{"a wrong group, too many held", func(w *api.World) { w.Groups[0] = 0; w.Nodes[0].Held = over }},
		{"a wrong group, too many on a wire", func(w *api.World) { w.Groups[0] = 16; w.Wires[1][2] = over }},
	})
	ask(t, api.ErrMany, []turn{
		{"a wrong Clock, too many held", func(w *api.World) { w.Nodes[0].Clock = -1; w.Nodes[3].Held = over }},
		{"a wrong Last, too many told", func(w *api.World) { w.Nodes[0].Last = nil; w.Nodes[0].Told = over }},
		{"a wrong message, too many on a wire", func(w *api.World) { w.Nodes[0].Held[0].Stamp = 0; w.Wires[2][1] = over }},
		{"too few Wires, too many on one", func(w *api.World) { w.Wires = [][][]api.Msg{{over}} }},
		{"too many on a wire to itself", func(w *api.World) { w.Wires[0][0] = over }},
		{"no groups, a wrong Clock", func(w *api.World) { w.Groups = nil; w.Nodes[0].Clock = -1 }},
	})
}

// C2, P2, P3: Check only reads, spare room too, and asked again answers the same.
func TestCheckMemory(t *testing.T) {
	w, before := clone(busy()), clone(busy())
	for range 2 {
		if e := Check(w); e != api.OK {
			t.Fatalf("Check: %d", e)
		}
	}
	if !reflect.DeepEqual(whole(w), whole(before)) {
		t.Errorf("Check left %v of %v", whole(w), whole(before))
	}
}

// whole is w with the spare room of its lists laid open.
func whole(w api.World) api.World {
	w.Groups, w.Nodes, w.Wires = w.Groups[:cap(w.Groups)], w.Nodes[:cap(w.Nodes)], w.Wires[:cap(w.Wires)]
	out := api.World{Groups: w.Groups}
	for _, x := range w.Nodes {
		x.Held, x.Told = x.Held[:cap(x.Held)], x.Told[:cap(x.Told)]
		var last [][]int
		for _, l := range x.Last[:cap(x.Last)] {
			last = append(last, l[:cap(l)])
		}
		x.Last = last
		out.Nodes = append(out.Nodes, x)
	}
	for _, row := range w.Wires {
		var open [][]api.Msg
		for _, l := range row[:cap(row)] {
			open = append(open, l[:cap(l)])
		}
		out.Wires = append(out.Wires, open)
	}
	return out
}
