// Package whole has no program: its tests ask for what the layers promise
// together, a test for each row of the document's 'What the whole promises'.
package whole

import (
	"fmt"
	"slices"
	"testing"

	"furlong/agree"
	"furlong/api"
	"furlong/bound"
	"furlong/calm"
	"furlong/cause"
	"furlong/groups"
	"furlong/log"
	"furlong/msg"
	"furlong/tell"
	"furlong/wire"
	"furlong/world"
)

// draw has numbers for stories; the same each time.
type draw uint64

func (d *draw) n(n int) int {
	*d = *d*6364136223846793005 + 1442695040888963407
	return int(uint64(*d) >> 33 % uint64(n))
}

// story is acts, and the worlds from Begin on: one ahead of each act, and one
// behind all. An act that has an error leaves the world as it was.
type story struct {
	nodes  int
	groups []int
	acts   []api.Act
	fails  []api.Errno
	worlds []api.World
}

// tale draws a story. In some of them little comes, and lists get full.
func tale(t *testing.T, r *draw) story {
	t.Helper()
	s := story{nodes: 1 + r.n(api.MaxNodes)}
	for range 1 + r.n(api.MaxGroups) {
		s.groups = append(s.groups, 1+r.n(1<<s.nodes-1)|r.n(1<<s.nodes))
	}
	w, e := world.Begin(s.nodes, s.groups)
	if e != api.OK {
		t.Fatalf("Begin(%d, %v): %d", s.nodes, s.groups, e)
	}
	s.worlds = []api.World{w}
	comes := []int{1, 5, 6, 7}[r.n(4)]
	for k := range r.n(api.MaxActs + 1) {
		x := s.act(r, comes)
		if x.Kind == api.ActCast && x.Body == "" {
			x.Body = fmt.Sprint(k)
		}
		next, e := log.Do(w, x)
		if e == api.OK {
			w = next
		}
		s.acts, s.fails, s.worlds = append(s.acts, x), append(s.fails, e), append(s.worlds, w)
	}
	return s
}

// act draws an act: in so many of ten something comes, mostly where something is
// on its way. Some can't be done. (None is a Calm: nobody sees what it sends; it
// has tests of its own.)
func (s story) act(r *draw, comes int) api.Act {
	x := api.Act{Kind: api.ActCast, One: r.n(s.nodes), Two: r.n(len(s.groups))}
	if r.n(10) < comes {
		x.Kind, x.Two = api.ActMove, r.n(s.nodes)
		for range 9 {
			if len(s.last().Wires[x.One][x.Two]) == 0 {
				x.One, x.Two = r.n(s.nodes), r.n(s.nodes)
			}
		}
	} else if r.n(3) == 0 {
		x.Kind = api.ActNull
	}
	if r.n(20) == 0 {
		x = api.Act{Kind: []int{-1, 0, 1, 2, 3, 5}[r.n(6)], One: r.n(6) - 1, Two: r.n(6) - 1, Body: "123456789"[:r.n(10)]}
	}
	return x
}

// tales asks that something is so of each of many stories.
func tales(t *testing.T, seed draw, many int, ask func(s story)) {
	t.Helper()
	for range many {
		ask(tale(t, &seed))
	}
}

// last is the world behind all acts.
func (s story) last() api.World { return s.worlds[len(s.worlds)-1] }

// has tells whether n is a member of the group of m.
func (s story) has(m api.Msg, n int) bool { return groups.Has(s.groups, m.Group, n) }

// sent is what act k sends, if it sends anything.
func (s story) sent(k int) (api.Msg, bool) {
	x := s.acts[k]
	if s.fails[k] != api.OK || x.Kind != api.ActCast && x.Kind != api.ActNull {
		return api.Msg{}, false
	}
	m := api.Msg{From: x.One, Group: x.Two, Stamp: s.worlds[k].Nodes[x.One].Clock + 1, Null: x.Kind == api.ActNull}
	if !m.Null {
		m.Body = x.Body
	}
	return m, true
}

// allSent is all that was sent, in the order in which it was.
func (s story) allSent() []api.Msg {
	var out []api.Msg
	for k := range s.acts {
		if m, is := s.sent(k); is {
			out = append(out, m)
		}
	}
	return out
}

// came is what comes by act k, and to whom, if anything does.
func (s story) came(k int) (api.Msg, int, bool) {
	x := s.acts[k]
	if s.fails[k] != api.OK || x.Kind != api.ActMove {
		return api.Msg{}, 0, false
	}
	return s.worlds[k].Wires[x.One][x.Two][0], x.Two, true
}

// far is how far node n is.
func far(t *testing.T, w api.World, n int) int {
	t.Helper()
	far, e := bound.Of(w, n)
	if e != api.OK {
		t.Fatalf("Of(%d): error %d in %+v", n, e, w)
	}
	return far
}

// enough asks that so much was seen: a test that sees nothing asks nothing.
func enough(t *testing.T, what string, got, want int) {
	t.Helper()
	if got < want {
		t.Errorf("%s: %d are too few", what, got)
	}
}

// text is a world as a text; lists without elements are the same in it.
func text(w api.World) string { return fmt.Sprintf("%+v", w) }

// Of two messages one is less: of all that is sent in a world; of those that
// have both Stamp and From, neither is; what is less than a lesser one is less.
func TestOneIsLess(t *testing.T) {
	pairs := 0
	tales(t, 1, 60, func(s story) {
		all := s.allSent()
		for i, a := range all {
			for k, b := range all {
				if i != k && msg.Less(a, b) == msg.Less(b, a) {
					t.Fatalf("neither of %v and %v is less, or both are", a, b)
				}
				pairs++
			}
			if msg.Less(a, a) {
				t.Fatalf("%v is less than itself", a)
			}
		}
	})
	enough(t, "pairs", pairs, 10000)
	var some []api.Msg
	for k := range 32 {
		some = append(some, api.Msg{Stamp: []int{1, 2, 3, api.MaxStamp}[k%4], From: k / 4 % 4, Group: k / 16, Null: k%3 == 0, Body: fmt.Sprint(k)})
	}
	for _, a := range some {
		for _, b := range some {
			same := a.Stamp == b.Stamp && a.From == b.From
			if same && msg.Less(a, b) || !same && msg.Less(a, b) == msg.Less(b, a) {
				t.Errorf("Less of %v and %v: %v, %v", a, b, msg.Less(a, b), msg.Less(b, a))
			}
			for _, c := range some {
				if msg.Less(a, b) && msg.Less(b, c) && !msg.Less(a, c) {
					t.Errorf("%v, %v, %v", a, b, c)
				}
			}
		}
	}
}

// notAbove asks that no node of w is further than its clock, or than what has
// come of another member; it tells how many are further than 0.
func notAbove(t *testing.T, w api.World) int {
	t.Helper()
	some := 0
	for n, x := range w.Nodes {
		f := far(t, w, n)
		if f > x.Clock {
			t.Fatalf("node %d is as far as %d, its clock is %d", n, f, x.Clock)
		}
		for g, last := range x.Last {
			for k, of := range last {
				if k != n && groups.Has(w.Groups, g, n) && groups.Has(w.Groups, g, k) && f > of {
					t.Fatalf("node %d is as far as %d, and has heard %d from %d in group %d", n, f, of, k, g)
				}
			}
		}
		if f > 0 {
			some++
		}
	}
	return some
}

// How far a node is is not above its clock, nor above what has come of any
// other member: in stories, and in worlds that no story tells.
func TestHowFar(t *testing.T) {
	some := 0
	tales(t, 2, 60, func(s story) {
		for _, w := range s.worlds {
			some += notAbove(t, w)
		}
	})
	enough(t, "nodes of stories", some, 500)
	r, some := draw(22), 0
	for range 500 {
		w, _ := world.Begin(4, []int{1 + r.n(15), 1 + r.n(15), 1 + r.n(15)})
		numbers := []int{1, 5, 9, api.MaxStamp - 1, api.MaxStamp}
		for n := range w.Nodes {
			w.Nodes[n].Clock = numbers[r.n(5)]
			for g := range w.Groups {
				for k := range w.Nodes {
					if groups.Has(w.Groups, g, n) && groups.Has(w.Groups, g, k) {
						w.Nodes[n].Last[g][k] = numbers[r.n(5)]
					}
				}
			}
		}
		some += notAbove(t, w)
	}
	enough(t, "nodes of other worlds", some, 1000)
	if f, e := bound.Of(api.World{}, 0); f != 0 || e != api.ErrRange {
		t.Errorf("Of no world: %d, error %d", f, e)
	}
}

// What was told stays told, and what is told was held, or came or was sent just
// then.
func TestStaysTold(t *testing.T) {
	fresh := 0
	tales(t, 3, 100, func(s story) {
		for k := range s.acts {
			before, after := s.worlds[k], s.worlds[k+1]
			comes, to, is := s.came(k)
			sends, sent := s.sent(k)
			for n, x := range before.Nodes {
				y := after.Nodes[n]
				if len(y.Told) < len(x.Told) || !slices.Equal(y.Told[:len(x.Told)], x.Told) {
					t.Fatalf("node %d was told %v, and then %v", n, x.Told, y.Told)
				}
				held := slices.Clone(x.Held)
				if is && n == to && !comes.Null {
					held = append(held, comes)
				}
				if sent && n == sends.From && !sends.Null {
					held = append(held, sends)
				}
				more := y.Told[len(x.Told):]
				fresh += len(more)
				kept := slices.Concat(more, y.Held)
				slices.SortFunc(held, order)
				if !slices.Equal(held, kept) {
					t.Fatalf("node %d held %v; it was told %v, and holds %v", n, held, more, y.Held)
				}
			}
		}
	})
	enough(t, "messages told", fresh, 500)
}

// order is that of messages, of which none are the same.
func order(a, b api.Msg) int {
	if msg.Less(a, b) {
		return -1
	}
	return 1
}

// What was told stays told, and what is told was held: by telling alone, of
// worlds that no story tells.
func TestTelling(t *testing.T) {
	r, fresh := draw(33), 0
	for range 300 {
		w, _ := world.Begin(2, []int{3})
		x := &w.Nodes[0]
		x.Clock, x.Last[0][1] = r.n(90), r.n(90)
		for stamp := range r.n(api.MaxList + 1) {
			x.Told = append(x.Told, api.Msg{From: 1, Stamp: 1 + stamp})
		}
		for stamp := range r.n(api.MaxList + 1) {
			x.Held = append(x.Held, api.Msg{From: 1, Stamp: 20 + stamp})
		}
		after, many, e := tell.Node(w, 0)
		if e != api.OK {
			if after.Nodes != nil || many != 0 {
				t.Fatalf("error %d, and %+v, %d", e, after, many)
			}
			continue
		}
		y := after.Nodes[0]
		if !slices.Equal(y.Told[:len(x.Told)], x.Told) || !slices.Equal(slices.Concat(y.Told[len(x.Told):], y.Held), x.Held) || many != len(y.Told)-len(x.Told) {
			t.Fatalf("%v held, %v told; then %v held, %v told", x.Held, x.Told, y.Held, y.Told)
		}
		fresh += many
	}
	enough(t, "messages told", fresh, 500)
}

// A message that is sent is on its way to each other member, and to nobody else;
// what was on its way still is; what can't be sent is on no way.
func TestOnItsWay(t *testing.T) {
	many, refused := 0, 0
	tales(t, 4, 100, func(s story) {
		for k, x := range s.acts {
			m, is := s.sent(k)
			if !is && x.Kind == api.ActMove && s.fails[k] == api.OK {
				continue
			}
			for from, row := range s.worlds[k].Wires {
				for to, want := range row {
					if is && from == m.From && to != from && s.has(m, to) {
						want = append(slices.Clone(want), m)
						many++
					}
					if got := s.worlds[k+1].Wires[from][to]; !slices.Equal(got, want) {
						t.Fatalf("act %+v: from %d to %d are %v, not %v", x, from, to, got, want)
					}
				}
			}
			if !is {
				refused++
			}
		}
	})
	enough(t, "messages on their way", many, 1000)
	enough(t, "acts that can't be done", refused, 500)
}

// Whatever comes to a node later is beyond how far it is, or ever was: what is on
// its way already, and what is sent later; by its own clock, too.
func TestBeyond(t *testing.T) {
	later := 0
	tales(t, 5, 100, func(s story) {
		was := make([]int, s.nodes)
		for k, w := range s.worlds {
			for n := range w.Nodes {
				was[n] = max(was[n], far(t, w, n))
				for from := range w.Nodes {
					for _, m := range w.Wires[from][n] {
						if m.Stamp <= was[n] {
							t.Fatalf("%v is on its way to node %d, which was as far as %d", m, n, was[n])
						}
					}
				}
			}
			if k == len(s.acts) {
				break
			}
			if m, to, is := s.came(k); is {
				if m.Stamp <= was[to] {
					t.Fatalf("%v comes to node %d, which was as far as %d", m, to, was[to])
				}
				if was[to] > 0 {
					later++
				}
			}
			if m, is := s.sent(k); is && m.Stamp <= was[m.From] {
				t.Fatalf("%v is sent, who sends it was as far as %d", m, was[m.From])
			}
		}
	})
	enough(t, "messages that came later", later, 200)
}

// In a calm world nobody holds anything, and each message was told to all members
// of its group, once, and to nobody else.
func TestCalm(t *testing.T) {
	many, full := 0, 0
	tales(t, 6, 500, func(s story) {
		told := make([]int, s.nodes)
		all := slices.DeleteFunc(s.allSent(), func(m api.Msg) bool { return m.Null })
		for _, m := range all {
			for n := range told {
				if s.has(m, n) {
					told[n]++
				}
			}
		}
		w, e := calm.Calm(s.last())
		if slices.Max(told) > api.MaxList {
			// No list has room for that: so there is no calm world.
			if e != api.ErrMany || w.Nodes != nil {
				t.Fatalf("%d were sent to one node: error %d, %+v", slices.Max(told), e, w)
			}
			full++
			return
		}
		if e != api.OK {
			t.Fatalf("Calm: error %d of %+v", e, s.last())
		}
		for n, x := range w.Nodes {
			if len(x.Held) > 0 || len(slices.Concat(w.Wires[n]...)) > 0 || len(x.Told) != told[n] {
				t.Fatalf("node %d: %v held, %v on their way, %v told", n, x.Held, w.Wires[n], x.Told)
			}
			for _, m := range all {
				if slices.Contains(x.Told, m) != s.has(m, n) {
					t.Fatalf("groups %v: %v, of what is told to node %d: %v", s.groups, m, n, x.Told)
				}
			}
			many += len(x.Told)
		}
	})
	enough(t, "messages told", many, 2000)
	enough(t, "worlds that have no room", full, 3)
}

// What was told to two was told to both in the same order, at any time.
func TestSameOrder(t *testing.T) {
	both := 0
	ask := func(w api.World) {
		for a, x := range w.Nodes {
			for b := range a {
				one, e := agree.Common(w, a, b)
				two, f := agree.Common(w, b, a)
				if e != api.OK || f != api.OK || !slices.Equal(one, two) {
					t.Fatalf("told to %d and %d: %v and %v, errors %d and %d", a, b, one, two, e, f)
				}
				at := -1
				for _, m := range x.Told {
					ahead, is, e := agree.Ahead(w, b, m)
					if e != api.OK || is != slices.Contains(one, m) || is && ahead <= at {
						t.Fatalf("%v: told to %d %v, error %d; %d ahead of it", m, b, is, e, ahead)
					}
					if is {
						at = ahead
						both++
					}
				}
			}
		}
	}
	tales(t, 7, 150, func(s story) {
		for _, w := range s.worlds {
			ask(w)
		}
		if w, e := calm.Calm(s.last()); e == api.OK {
			ask(w)
		}
	})
	enough(t, "messages told to two", both, 3000)
}

// What comes ahead has the lesser Stamp, and is told first: to whom the one behind
// it was told, the one ahead of it was told before, if it was to him at all.
func TestAheadFirst(t *testing.T) {
	pairs, twice := 0, 0
	tales(t, 8, 80, func(s story) {
		sent, ahead, e := cause.Mark(s.nodes, s.groups, s.acts)
		if e != api.OK || !slices.Equal(sent, s.allSent()) {
			t.Fatalf("Mark: error %d, %v, not %v", e, sent, s.allSent())
		}
		worlds := []api.World{s.worlds[len(s.worlds)/2], s.last()}
		if w, e := calm.Calm(s.last()); e == api.OK {
			worlds = append(worlds, w)
		}
		for b, row := range ahead {
			for a, is := range row {
				if !is {
					continue
				}
				pairs++
				if sent[a].Stamp >= sent[b].Stamp {
					t.Fatalf("%v comes ahead of %v", sent[a], sent[b])
				}
				for _, w := range worlds {
					twice += first(t, s, w, sent[a], sent[b])
				}
			}
		}
	})
	enough(t, "pairs", pairs, 5000)
	enough(t, "told to one", twice, 2000)
}

// first asks that a was told first to whom b was told, and tells to how many.
func first(t *testing.T, s story, w api.World, a, b api.Msg) int {
	t.Helper()
	many := 0
	for n, x := range w.Nodes {
		second := slices.Index(x.Told, b)
		if second < 0 || a.Null || !s.has(a, n) {
			continue
		}
		if at := slices.Index(x.Told, a); at < 0 || at > second {
			t.Fatalf("%v comes ahead of %v; node %d was told %v", a, b, n, x.Told)
		}
		many++
	}
	return many
}

// Wherever a log is cut, what is recovered is what was done by the acts that are
// whole.
func TestCutLog(t *testing.T) {
	cuts := 0
	tales(t, 9, 25, func(s story) {
		written := ""
		for k, x := range slices.Concat(s.acts, []api.Act{{Kind: api.ActCalm}}) {
			x = writable(x)
			b, e := log.Write(x)
			if e != api.OK {
				t.Fatalf("Write %+v: error %d", x, e)
			}
			want := doneBy(t, s, k)
			for cut := range len(b) {
				w, many, e := log.Recover(s.nodes, s.groups, written+b[:cut])
				if e != api.OK || many != k || text(w) != want {
					t.Fatalf("behind %d acts and %d bytes: %d, error %d\n%+v\nnot\n%s", k, cut, many, e, w, want)
				}
				cuts++
			}
			written += b
		}
	})
	enough(t, "cuts", cuts, 3000)
}

// writable is x with no number below 0: these are not written.
func writable(x api.Act) api.Act {
	x.Kind, x.One, x.Two = max(x.Kind, 0), max(x.One, 0), max(x.Two, 0)
	return x
}

// doneBy is the world behind the first k acts, as they are written.
func doneBy(t *testing.T, s story, k int) string {
	t.Helper()
	w, e := world.Begin(s.nodes, s.groups)
	for _, x := range s.acts[:k] {
		if next, e := log.Do(w, writable(x)); e == api.OK {
			w = next
		}
	}
	if e != api.OK {
		t.Fatalf("Begin: error %d", e)
	}
	return text(w)
}

// What is written is read as it was, and nothing else is: not what is cut, not
// what goes on, not what is no world's; what is read is written so.
func TestWrittenRead(t *testing.T) {
	r := draw(99)
	same, others, wrong := 0, 0, 0
	tales(t, 10, 60, func(s story) {
		for _, w := range s.worlds {
			b, e := wire.Write(w)
			if e != api.OK {
				t.Fatalf("Write: error %d of %+v", e, w)
			}
			got, e := wire.Read(b)
			if len(b) > api.MaxBytes {
				if e != api.ErrMany || got.Nodes != nil {
					t.Fatalf("Read of %d bytes: error %d", len(b), e)
				}
				continue
			}
			if e != api.OK || text(got) != text(w) {
				t.Fatalf("Read: error %d\n%+v\nnot\n%+v", e, got, w)
			}
			same++
			changed := []byte(b)
			changed[r.n(len(b))] = byte(r.n(5))
			for _, x := range []string{b[:r.n(len(b))], b + b[r.n(len(b)):], string(changed)} {
				if x == b {
					continue
				}
				got, e := wire.Read(x)
				again, _ := wire.Write(got)
				switch {
				case e == api.OK && again == x && world.Check(got) == api.OK && text(got) != text(w):
					others++
				case e == api.ErrForm && again == "" && got.Nodes == nil:
					wrong++
				default:
					t.Fatalf("Read %q: error %d, %+v", x, e, got)
				}
			}
		}
	})
	enough(t, "worlds", same, 1500)
	enough(t, "other worlds", others, 100)
	enough(t, "no worlds", wrong, 3000)
}
