package agree

import (
	"fmt"
	"math"
	"reflect"
	"slices"
	"testing"

	"furlong/api"
	"furlong/calm"
	"furlong/cast"
	"furlong/move"
	"furlong/world"
)

// of is a message of node n to group g.
func of(n, g, stamp int, body string) api.Msg {
	return api.Msg{From: n, Group: g, Stamp: stamp, Body: body}
}

// run is a rising list of that many messages of node n to group 0, from Stamp first on.
func run(n, first, many int) []api.Msg {
	var l []api.Msg
	for i := range many {
		l = append(l, of(n, 0, first+i, "x"))
	}
	return l
}

// begin is the world of these nodes and groups, ahead of all messages.
func begin(t *testing.T, nodes int, l ...int) api.World {
	t.Helper()
	w, e := world.Begin(nodes, l)
	if e != api.OK {
		t.Fatalf("Begin(%d, %v): %d", nodes, l, e)
	}
	return w
}

// telling is a world of that group of all nodes and another one like it, in
// which these lists were told.
func telling(t *testing.T, lists ...[]api.Msg) api.World {
	t.Helper()
	w := begin(t, len(lists), 1<<len(lists)-1, 1<<len(lists)-1)
	for n, l := range lists {
		w.Nodes[n].Told = l
	}
	if e := world.Check(w); e != api.OK {
		t.Fatalf("the world has error %d", e)
	}
	return w
}

// common asks that these were told to both, whichever is asked for first.
func common(t *testing.T, w api.World, a, b int, want ...api.Msg) {
	t.Helper()
	if l, e := Common(w, a, b); !slices.Equal(l, want) || e != api.OK {
		t.Errorf("Common of %d and %d: %v, error %d, not %v", a, b, l, e, want)
	}
	if l, e := Common(w, b, a); !slices.Equal(l, want) || e != api.OK {
		t.Errorf("Common of %d and %d: %v, error %d, not %v", b, a, l, e, want)
	}
}

// ahead asks that m was told to node n behind that many; -1: it was not told.
func ahead(t *testing.T, w api.World, n int, m api.Msg, want int) {
	t.Helper()
	many, is, e := Ahead(w, n, m)
	if many != max(want, 0) || is != (want >= 0) || e != api.OK {
		t.Errorf("Ahead of %v, told to %d: %d, %v, error %d, not %d", m, n, many, is, e, want)
	}
}

// all asks that these were told to anybody.
func all(t *testing.T, w api.World, want ...api.Msg) {
	t.Helper()
	if l, e := All(w); !slices.Equal(l, want) || e != api.OK {
		t.Errorf("All: %v, error %d, not %v", l, e, want)
	}
}

// I1, the ninth example: node 1 was told a and b, node 2 b.
func TestExample(t *testing.T) {
	w := begin(t, 3, 3, 6)
	w, _ = cast.Send(w, 0, 0, "a")
	w, _ = cast.Send(w, 2, 1, "b")
	w, e := calm.Calm(w)
	if e != api.OK {
		t.Fatalf("Calm: %d", e)
	}
	a, b := of(0, 0, 1, "a"), of(2, 1, 1, "b")
	common(t, w, 1, 1, a, b)
	common(t, w, 1, 2, b)
	common(t, w, 0, 1, a)
	common(t, w, 0, 2)
	ahead(t, w, 1, a, 0)
	ahead(t, w, 1, b, 1)
	ahead(t, w, 2, b, 0)
	ahead(t, w, 2, a, -1)
	all(t, w, a, b)
}

// I1: nothing was told: what is held, or on its way, was not.
func TestNothingTold(t *testing.T) {
	w := begin(t, 3, 7)
	w.Nodes[0].Held, w.Nodes[1].Held = run(0, 1, 3), run(0, 1, 3)
	w.Wires[0][2] = run(0, 1, 3)
	common(t, w, 0, 1)
	common(t, w, 2, 2)
	for n := range 3 {
		ahead(t, w, n, of(0, 0, 1, "x"), -1)
	}
	all(t, w)
	w.Nodes[0].Held, w.Nodes[0].Told = nil, run(0, 1, 3)
	common(t, w, 0, 1)
	ahead(t, w, 1, of(0, 0, 1, "x"), -1)
	all(t, w, run(0, 1, 3)...)
}

// I1: what was told to both, in order, and nothing else.
func TestCommon(t *testing.T) {
	a, b, c, d, e := of(1, 0, 1, "a"), of(0, 1, 2, "b"), of(2, 0, 2, "c"), of(0, 0, 3, ""), of(1, 1, 9, "12345678")
	w := telling(t, []api.Msg{a, b, d, e}, []api.Msg{b, c, e}, []api.Msg{a, c}, []api.Msg{a, b, c, d, e})
	common(t, w, 0, 1, b, e)
	common(t, w, 0, 2, a)
	common(t, w, 0, 3, a, b, d, e)
	common(t, w, 1, 2, c)
	common(t, w, 1, 3, b, c, e)
	common(t, w, 2, 3, a, c)
	common(t, w, 3, 3, a, b, c, d, e)
}

// I1: one that has Stamp and From the same, and something else, is another one.
func TestNotTheSame(t *testing.T) {
	m := of(1, 0, 2, "m")
	for _, other := range []api.Msg{of(1, 1, 2, "m"), of(1, 0, 2, "M"), of(1, 0, 2, ""), of(1, 0, 2, "m\x00")} {
		w := telling(t, []api.Msg{of(0, 0, 1, "a"), m}, []api.Msg{of(0, 0, 1, "a"), other, of(1, 0, 3, "c")}, nil)
		common(t, w, 0, 1, of(0, 0, 1, "a"))
		ahead(t, w, 0, other, -1)
		ahead(t, w, 1, m, -1)
		ahead(t, w, 1, other, 1)
		if l, e := All(w); len(l) != 0 || e != api.ErrForm {
			t.Errorf("All, with %v and %v: %v, error %d", m, other, l, e)
		}
		w.Nodes[1].Told[1] = m
		all(t, w, of(0, 0, 1, "a"), m, of(1, 0, 3, "c"))
	}
}

// I1: how many were told ahead; a message that is another in whatever it has was not.
func TestAhead(t *testing.T) {
	l := []api.Msg{of(0, 0, 1, "a"), of(1, 0, 1, "b"), of(1, 1, 4, "c"), of(0, 0, api.MaxStamp, "d")}
	w := telling(t, l, l[2:])
	for at, m := range l {
		ahead(t, w, 0, m, at)
		ahead(t, w, 1, m, max(at-2, -1))
	}
	m := l[2]
	null := m
	null.Null = true
	for _, other := range []api.Msg{
		{}, null, of(0, 1, 4, "c"), of(1, 0, 4, "c"), of(1, 1, 3, "c"), of(1, 1, 5, "c"), of(1, 1, 4, "C"), of(1, 1, 4, ""),
		of(-1, 1, 4, "c"), of(1, math.MinInt, 4, "c"), of(1, 1, math.MaxInt, "c"), of(1, 1, 4, "c, and much more"),
	} {
		ahead(t, w, 0, other, -1)
	}
}

// I1: as many as may have been told, to each one; more than one list has room for.
func TestMany(t *testing.T) {
	var lists [][]api.Msg
	for n := range 4 {
		lists = append(lists, run(n, 1, api.MaxList))
	}
	w := telling(t, lists...)
	var want []api.Msg
	for stamp := 1; stamp <= api.MaxList; stamp++ {
		for n := range 4 {
			want = append(want, of(n, 0, stamp, "x"))
		}
	}
	all(t, w, want...)
	common(t, w, 0, 3)
	common(t, w, 3, 3, run(3, 1, api.MaxList)...)
	ahead(t, w, 2, of(2, 0, api.MaxList, "x"), api.MaxList-1)
	w = telling(t, lists[1], lists[1], lists[1])
	all(t, w, lists[1]...)
	common(t, w, 2, 0, lists[1]...)
}

// I1: each once, and rising, whichever node it was told to; two that are not
// the same are found though others stand between them.
func TestAll(t *testing.T) {
	a, b, c, d := of(3, 0, 1, "a"), of(0, 0, 2, "b"), of(1, 1, 2, "c"), of(0, 1, 3, "d")
	for _, lists := range [][][]api.Msg{
		{{a, b, c, d}, nil, nil, nil},
		{nil, nil, nil, {a, b, c, d}},
		{{d}, {c}, {b}, {a}},
		{{b}, {a}, {a, d}, {c}},
		{{c, d}, {b, c}, {a, b}, {a, d}},
		{{a, b, c, d}, {a, b, c, d}, {a, b, c, d}, {a, b, c, d}},
	} {
		all(t, telling(t, lists...), a, b, c, d)
	}
	other := d
	other.Body = "D"
	w := telling(t, []api.Msg{a, d}, []api.Msg{b}, []api.Msg{c, d}, []api.Msg{a, b, c, other})
	if l, e := All(w); len(l) != 0 || e != api.ErrForm {
		t.Errorf("All: %v, error %d", l, e)
	}
}

// refused asks that the calls answer want, and nothing else.
func refused(t *testing.T, name string, w api.World, a, b int, want api.Errno) {
	t.Helper()
	if l, e := Common(w, a, b); l != nil || e != want {
		t.Errorf("Common of %d and %d, %s: %v, error %d, not %d", a, b, name, l, e, want)
	}
	if l, e := Common(w, b, a); l != nil || e != want {
		t.Errorf("Common of %d and %d, %s: %v, error %d, not %d", b, a, name, l, e, want)
	}
	if many, is, e := Ahead(w, a, of(0, 0, 1, "a")); many != 0 || is || e != want {
		t.Errorf("Ahead, of %d, %s: %d, %v, error %d, not %d", a, name, many, is, e, want)
	}
}

// busy is a world in which each node was told something.
func busy(t *testing.T) api.World {
	a, b := of(0, 0, 1, "a"), of(1, 1, 2, "b")
	return telling(t, []api.Msg{a, b}, []api.Msg{a, b}, []api.Msg{b})
}

// I1: there is no such node.
func TestNone(t *testing.T) {
	for _, n := range []int{math.MinInt, -1 << 32, -1, 3, 4, 63, 64, 1 << 32, math.MaxInt} {
		refused(t, "no node", busy(t), n, 0, api.ErrNone)
		refused(t, "no node", busy(t), n, n, api.ErrNone)
	}
}

// I1, P1: world.Check's errors, which go ahead of all others.
func TestWrongWorld(t *testing.T) {
	for _, x := range []struct {
		name string
		want api.Errno
		do   func(w *api.World)
	}{
		{"no world", api.ErrRange, func(w *api.World) { *w = api.World{} }},
		{"five nodes", api.ErrRange, func(w *api.World) { w.Nodes = make([]api.Node, 5) }},
		{"no groups", api.ErrMany, func(w *api.World) { w.Groups = nil }},
		{"too many told", api.ErrMany, func(w *api.World) { w.Nodes[0].Told = run(0, 1, api.MaxList+1) }},
		{"too many on a wire", api.ErrMany, func(w *api.World) { w.Wires[0][1] = run(0, 1, api.MaxList+1) }},
		{"a group of nobody", api.ErrForm, func(w *api.World) { w.Groups[0] = 0 }},
		{"a Clock too far", api.ErrForm, func(w *api.World) { w.Nodes[2].Clock = api.MaxStamp + 1 }},
		{"no Last", api.ErrForm, func(w *api.World) { w.Nodes[1].Last = nil }},
		{"no Wires", api.ErrForm, func(w *api.World) { w.Wires = nil }},
		{"what was told falls", api.ErrForm, func(w *api.World) { w.Nodes[0].Told[0].Stamp = 3 }},
		{"a Null was told", api.ErrForm, func(w *api.World) { w.Nodes[0].Told[0] = api.Msg{Stamp: 1, Null: true} }},
	} {
		w := busy(t)
		x.do(&w)
		for n := -1; n <= 5; n++ {
			refused(t, x.name, w, n, 0, x.want)
		}
		if l, e := All(w); l != nil || e != x.want {
			t.Errorf("All, %s: %v, error %d, not %d", x.name, l, e, x.want)
		}
	}
	w := busy(t)
	w.Nodes[0].Told = []api.Msg{of(0, 0, 1, "else")}
	w.Nodes[2].Held = run(0, 1, api.MaxList+1)
	if l, e := All(w); l != nil || e != api.ErrMany {
		t.Errorf("All, two are not the same, too many are held: %v, error %d", l, e)
	}
}

// I1, P2, P3: what is handed in stays, spare room too; an answer is new memory.
func TestMemory(t *testing.T) {
	spare := of(7, 7, 7, "7")
	want := []api.Msg{of(0, 0, 1, "a"), of(1, 1, 2, "b")}
	roomy := func() []api.Msg { return append(append(make([]api.Msg, 0, 4), want...), spare, spare)[:2] }
	w, kept := telling(t, roomy(), roomy()), telling(t, roomy(), roomy())
	for _, call := range []func() ([]api.Msg, api.Errno){
		func() ([]api.Msg, api.Errno) { return Common(w, 0, 1) },
		func() ([]api.Msg, api.Errno) { return Common(w, 0, 0) },
		func() ([]api.Msg, api.Errno) { return All(w) },
	} {
		first, _ := call()
		second, _ := call()
		if !slices.Equal(first, want) || !slices.Equal(second, want) {
			t.Fatalf("%v and %v, not %v", first, second, want)
		}
		first[0], first[1] = spare, spare
		first = append(first, of(5, 5, 5, "5"))
		if !slices.Equal(second, want) {
			t.Errorf("the other answer is %v", second)
		}
		for n, x := range w.Nodes {
			if !slices.Equal(x.Told[:4], append(slices.Clone(want), spare, spare)) {
				t.Errorf("node %d was told %v", n, x.Told[:4])
			}
		}
		w.Nodes[0].Told[0].Body, w.Nodes[1].Told[0].Body = "z", "z"
		if !slices.Equal(second, want) {
			t.Errorf("an answer knows of a later change: %v", second)
		}
		w.Nodes[0].Told[0].Body, w.Nodes[1].Told[0].Body = "a", "a"
	}
	Ahead(w, 1, want[1])
	Ahead(w, 1, spare)
	if !reflect.DeepEqual(w, kept) {
		t.Errorf("%v was left of %v", w, kept)
	}
}

// draw has numbers for scripts; the same each time.
type draw uint64

func (d *draw) n(n int) int {
	*d = *d*6364136223846793005 + 1442695040888963407
	return int(uint64(*d) >> 33 % uint64(n))
}

// step is what becomes of w by a call that is drawn, if it has no error.
func step(r *draw, w api.World, body string) api.World {
	n, g, to := r.n(len(w.Nodes)), r.n(len(w.Groups)), r.n(len(w.Nodes))
	var x api.World
	var e api.Errno
	switch r.n(6) {
	case 0, 1:
		x, e = cast.Send(w, n, g, body)
	case 2:
		x, e = cast.Null(w, n, g)
	default:
		x, e = move.One(w, n, to)
	}
	if e != api.OK {
		return w
	}
	return x
}

// I1: what was told to two was told to both in the same order, and all of it is
// told by All, whatever was done from the beginning on.
func TestSameOrder(t *testing.T) {
	r := draw(9)
	shared := 0
	for k := range 150 {
		w := begin(t, 4, []int{15, 7, 3, 9}[r.n(4)], 1+r.n(15), 1+r.n(15))
		for i := range 60 {
			w = step(&r, w, fmt.Sprint(i))
		}
		if k%2 == 0 {
			w, _ = calm.Calm(w)
		}
		union, e := All(w)
		if e != api.OK {
			t.Fatalf("script %d: All: %d", k, e)
		}
		for a, x := range w.Nodes {
			for at, m := range x.Told {
				ahead(t, w, a, m, at)
				if !slices.Contains(union, m) {
					t.Fatalf("script %d: %v is not in %v", k, m, union)
				}
			}
			for b, y := range w.Nodes {
				both := slices.DeleteFunc(slices.Clone(x.Told), func(m api.Msg) bool { return !slices.Contains(y.Told, m) })
				common(t, w, a, b, both...)
				if a != b {
					shared += len(both)
				}
			}
		}
	}
	if shared < 1000 {
		t.Errorf("too little was told to two: %d", shared)
	}
}
