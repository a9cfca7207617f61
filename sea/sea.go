// Package sea: a world in which something is done: telling, casting, moving
// and calm are done in one.
package sea

import (
	"slices"

	"furlong/api"
	"furlong/msg"
	"furlong/world"
)

// Sea is a world in memory of its own, so that what is done in it shows
// nowhere else, and how many there were of what is counted in it.
type Sea struct {
	api.World
	Many int
}

// Do tells what becomes of w when what is done in a sea of it, and how many
// were counted; or the error with which it was left, and nothing else.
func Do(w api.World, what func(s *Sea)) (out api.World, many int, e api.Errno) {
	defer func() {
		if left := recover(); left != nil {
			e = left.(api.Errno)
		}
	}()
	Pass(world.Check(w))
	s := &Sea{World: own(w)}
	what(s)
	return s.World, s.Many, api.OK
}

// Must leaves the sea with e, unless that is so.
func Must(so bool, e api.Errno) {
	if !so {
		panic(e)
	}
}

// Pass leaves the sea with e, unless it is OK.
func Pass(e api.Errno) {
	Must(e == api.OK, e)
}

// Become goes on with the world that a call answered, unless it had an error.
func (s *Sea) Become(w api.World, e api.Errno) {
	Pass(e)
	s.World = w
}

// Count goes on like Become, and counts what the call counted, too.
func (s *Sea) Count(w api.World, many int, e api.Errno) {
	s.Become(w, e)
	s.Many += many
}

// IsNode tells whether there is a node n.
func (s *Sea) IsNode(n int) bool {
	return n >= 0 && n < len(s.Nodes)
}

// Hold puts m to what node n holds; a Null has nothing to be told, and is not held.
func (s *Sea) Hold(n int, m api.Msg) {
	if m.Null {
		return
	}
	held, e := msg.Put(s.Nodes[n].Held, m)
	Pass(e)
	s.Nodes[n].Held = held
}

// own tells w in memory of its own, each of its lists.
func own(w api.World) api.World {
	out := api.World{Groups: slices.Clone(w.Groups), Nodes: slices.Clone(w.Nodes)}
	for n := range out.Nodes {
		x := &out.Nodes[n]
		x.Last, x.Held, x.Told = ownAll(x.Last), slices.Clone(x.Held), slices.Clone(x.Told)
	}
	for _, row := range w.Wires {
		out.Wires = append(out.Wires, ownAll(row))
	}
	return out
}

// ownAll tells lists, each in memory of its own.
func ownAll[T any](lists [][]T) [][]T {
	out := make([][]T, len(lists))
	for i, l := range lists {
		out[i] = slices.Clone(l)
	}
	return out
}
