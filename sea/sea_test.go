package sea_test

import (
	"fmt"
	"reflect"
	"strings"
	"testing"

	"furlong/api"
	"furlong/calm"
	"furlong/cast"
	"furlong/move"
	"furlong/sea"
	"furlong/tell"
	"furlong/world"
)

// of is a message of node n to group g.
func of(n, g, stamp int, body string) api.Msg {
	return api.Msg{From: n, Group: g, Stamp: stamp, Body: body}
}

// roomy is l in memory of its own, with spare room behind it that is filled.
func roomy[T any](fill T, l ...T) []T {
	out := make([]T, 0, len(l)+2)
	return append(append(out, l...), fill, fill)[:len(l)]
}

// messages, numbers: roomy lists of these.
func messages(l ...api.Msg) []api.Msg { return roomy(of(7, 7, 7, "7"), l...) }

func numbers(l ...int) []int { return roomy(77, l...) }

func lasts(l ...[]int) [][]int { return roomy([]int{77}, l...) }

func row(l ...[]api.Msg) [][]api.Msg { return roomy([]api.Msg{of(7, 7, 7, "7")}, l...) }

// busy is a world in which all calls have something to do, and each list has
// spare room.
func busy() api.World {
	null := api.Msg{From: 2, Group: 1, Stamp: 5, Null: true}
	return api.World{
		Groups: numbers(3, 6),
		Nodes: roomy(api.Node{Clock: 77},
			api.Node{Clock: 3, Last: lasts(numbers(0, 3, 0), numbers(0, 0, 0)), Held: messages(of(0, 0, 3, "d")), Told: messages(of(0, 0, 1, "a"), of(1, 0, 2, "b"))},
			api.Node{Clock: 4, Last: lasts(numbers(3, 0, 0), numbers(0, 0, 4)), Held: messages(of(1, 0, 2, "b"), of(2, 1, 4, "e")), Told: messages(of(0, 0, 1, "a"))},
			api.Node{Clock: 5, Last: lasts(numbers(0, 0, 0), numbers(0, 0, 0)), Held: messages(), Told: messages()},
		),
		Wires: roomy(row(messages()),
			row(messages(), messages(of(0, 0, 3, "d")), messages()),
			row(messages(), messages(), messages(of(1, 1, 3, "f"))),
			row(messages(), messages(null), messages()),
		),
	}
}

// calls are all calls that are done in a sea.
func calls() map[string]func(w api.World) (api.World, int, api.Errno) {
	none := func(w api.World, e api.Errno) (api.World, int, api.Errno) { return w, 0, e }
	return map[string]func(w api.World) (api.World, int, api.Errno){
		"tell.Node":    func(w api.World) (api.World, int, api.Errno) { return tell.Node(w, 1) },
		"nothing told": func(w api.World) (api.World, int, api.Errno) { return tell.Node(w, 2) },
		"cast.Send":    func(w api.World) (api.World, int, api.Errno) { return none(cast.Send(w, 1, 1, "new")) },
		"cast.Null":    func(w api.World) (api.World, int, api.Errno) { return none(cast.Null(w, 1, 0)) },
		"move.One":     func(w api.World) (api.World, int, api.Errno) { return none(move.One(w, 0, 1)) },
		"move.Wire":    func(w api.World) (api.World, int, api.Errno) { return move.Wire(w, 2, 1) },
		"nothing came": func(w api.World) (api.World, int, api.Errno) { return move.Wire(w, 1, 1) },
		"calm.Drain":   func(w api.World) (api.World, int, api.Errno) { return calm.Drain(w) },
		"calm.Round":   func(w api.World) (api.World, int, api.Errno) { return calm.Round(w) },
		"calm.Calm":    func(w api.World) (api.World, int, api.Errno) { return none(calm.Calm(w)) },
	}
}

// whole is w as a text, with the spare room of its lists laid open.
func whole(w api.World) string {
	s := fmt.Sprint(w.Groups[:cap(w.Groups)], len(w.Nodes), len(w.Wires))
	for _, x := range w.Nodes[:cap(w.Nodes)] {
		s += fmt.Sprint(x.Clock, x.Held[:cap(x.Held)], len(x.Held), x.Told[:cap(x.Told)], len(x.Told))
		for _, l := range x.Last[:cap(x.Last)] {
			s += fmt.Sprint(l[:cap(l)], len(l))
		}
	}
	for _, r := range w.Wires[:cap(w.Wires)] {
		for _, l := range r[:cap(r)] {
			s += fmt.Sprint(l[:cap(l)], len(l))
		}
	}
	return s
}

// span is where a list lies in memory, its spare room too.
type span struct{ first, end uintptr }

// spans are those of all lists in x that have room for anything.
func spans(x reflect.Value) []span {
	var out []span
	switch x.Kind() {
	case reflect.Struct:
		for i := range x.NumField() {
			out = append(out, spans(x.Field(i))...)
		}
	case reflect.Slice:
		if x.Cap() > 0 {
			out = append(out, span{x.Pointer(), x.Pointer() + uintptr(x.Cap())*x.Type().Elem().Size()})
		}
		for i := range x.Len() {
			out = append(out, spans(x.Index(i))...)
		}
	}
	return out
}

// share tells whether two of these lists lie in the same memory.
func share(l []span) bool {
	for i, a := range l {
		for _, b := range l[:i] {
			if a.first < b.end && b.first < a.end {
				return true
			}
		}
	}
	return false
}

// P2, P3 of E1, F1, G1, H1: what is handed in stays, spare room too; an answer
// is new memory, each list of it; asked again it is the same.
func TestMemory(t *testing.T) {
	for name, call := range calls() {
		w, before := busy(), whole(busy())
		first, many, e := call(w)
		second, again, f := call(w)
		if e != api.OK || f != api.OK || many != again || fmt.Sprint(first) != fmt.Sprint(second) {
			t.Errorf("%s: %v, %d, error %d; again %v, %d, error %d", name, first, many, e, second, again, f)
		}
		if after := whole(w); after != before {
			t.Errorf("%s left\n%s\nof\n%s", name, after, before)
		}
		var all []span
		for _, x := range []api.World{w, first, second} {
			all = append(all, spans(reflect.ValueOf(x))...)
		}
		if share(all) {
			t.Errorf("%s: lists share memory", name)
		}
	}
}

// P2: lists that share memory when they are handed in share none in an answer.
func TestSharedIn(t *testing.T) {
	shared := func() api.World {
		last, same := [][]int{{0, 0}, {0, 0}}, []api.Msg{of(0, 0, 1, "a"), of(0, 0, 9, "b")}
		last[1] = last[0]
		return api.World{
			Groups: []int{3, 3},
			Nodes:  []api.Node{{Clock: 9, Last: last, Held: same, Told: same[:1]}, {Last: last, Held: same}},
			Wires:  [][][]api.Msg{{nil, same}, {nil, nil}},
		}
	}
	moved, e := move.One(shared(), 0, 1)
	if e != api.ErrForm {
		t.Errorf("One: it is held, and comes: %v, error %d", moved, e)
	}
	w := shared()
	w.Nodes[1].Held = nil
	moved, e = move.One(w, 0, 1)
	want := shared()
	want.Nodes[1] = api.Node{Clock: 1, Last: [][]int{{1, 0}, {0, 0}}, Held: want.Nodes[0].Held[:1]}
	want.Wires[0][1] = want.Wires[0][1][1:]
	if e != api.OK || fmt.Sprint(moved) != fmt.Sprint(want) || share(spans(reflect.ValueOf(moved))) {
		t.Errorf("One: %v, error %d, not %v", moved, e, want)
	}
}

// P1, P2: a call that has an error only reads, too.
func TestMemoryOfErrors(t *testing.T) {
	full := busy()
	for i := range api.MaxList {
		full.Nodes[1].Told = append(full.Nodes[1].Told[:i], of(0, 0, i+1, ""))
	}
	before := whole(full)
	for name, call := range calls() {
		if strings.HasPrefix(name, "nothing") {
			continue
		}
		w, many, e := call(full)
		if e != api.ErrMany || w.Groups != nil || w.Nodes != nil || w.Wires != nil || many != 0 {
			t.Errorf("%s: error %d, and %v, %d", name, e, w, many)
		}
	}
	if after := whole(full); after != before {
		t.Errorf("they left\n%s\nof\n%s", after, before)
	}
}

// What is done in a sea shows in what Do answers; an error of it, or of the
// world, is all that is answered.
func TestDo(t *testing.T) {
	w, many, e := sea.Do(busy(), func(s *sea.Sea) {
		s.Nodes[2].Clock = 9
		s.Many = 4
	})
	if w.Nodes[2].Clock != 9 || many != 4 || e != api.OK || world.Check(w) != api.OK {
		t.Errorf("Do: %v, %d, error %d", w, many, e)
	}
	for e := api.ErrForm; e <= api.ErrEmpty; e++ {
		w, many, f := sea.Do(busy(), func(s *sea.Sea) {
			s.Many = 4
			s.Become(api.World{}, e)
		})
		if w.Nodes != nil || many != 0 || f != e {
			t.Errorf("Do with error %d: %v, %d, error %d", e, w, many, f)
		}
	}
	done := false
	if w, many, e := sea.Do(api.World{}, func(s *sea.Sea) { done = true }); w.Nodes != nil || many != 0 || e != api.ErrRange || done {
		t.Errorf("Do of no world: %v, %d, error %d, done: %v", w, many, e, done)
	}
}
