package cause

import (
	"fmt"
	"math"
	"slices"
	"testing"

	"furlong/api"
	"furlong/calm"
	"furlong/cast"
	"furlong/log"
	"furlong/move"
	"furlong/world"
)

// of is a message of node n to group g.
func of(n, g, stamp int, body string) api.Msg {
	return api.Msg{From: n, Group: g, Stamp: stamp, Body: body}
}

// null is a message that says nothing but its stamp.
func null(n, g, stamp int) api.Msg {
	return api.Msg{From: n, Group: g, Stamp: stamp, Null: true}
}

// send, say, come and rest are acts.
func send(n, g int, body string) api.Act {
	return api.Act{Kind: api.ActCast, One: n, Two: g, Body: body}
}

func say(n, g int) api.Act { return api.Act{Kind: api.ActNull, One: n, Two: g} }

func come(from, to int) api.Act { return api.Act{Kind: api.ActMove, One: from, Two: to} }

func rest() api.Act { return api.Act{Kind: api.ActCalm} }

// rows are marks as texts: 1 for one that came ahead.
func rows(marks [][]bool) []string {
	var out []string
	for _, row := range marks {
		s := ""
		for _, is := range row {
			s += map[bool]string{true: "1", false: "."}[is]
		}
		out = append(out, s)
	}
	return out
}

// marked asks that by these acts, in these groups of three nodes, these are
// sent, and what came ahead of them.
func marked(t *testing.T, l []int, acts []api.Act, sent []api.Msg, ahead ...string) {
	t.Helper()
	m, marks, e := Mark(3, l, acts)
	if !slices.Equal(m, sent) || !slices.Equal(rows(marks), ahead) || e != api.OK {
		t.Errorf("Mark %v: error %d\n%v %q, not\n%v %q", acts, e, m, rows(marks), sent, ahead)
	}
}

// K1, the eleventh example: c comes of all three ahead of it.
func TestExample(t *testing.T) {
	marked(t, []int{3, 6},
		[]api.Act{send(0, 0, "a"), come(0, 1), send(1, 1, "b"), send(2, 1, "x"), come(1, 2), send(2, 1, "c")},
		[]api.Msg{of(0, 0, 1, "a"), of(1, 1, 2, "b"), of(2, 1, 1, "x"), of(2, 1, 3, "c")},
		"....", "1...", "....", "111.")
}

// K1: nothing is done, or nothing is sent.
func TestNothing(t *testing.T) {
	marked(t, []int{3, 6}, nil, nil)
	marked(t, []int{3, 6}, []api.Act{rest(), come(0, 1), {}, send(0, 1, "no member")}, nil)
}

// K1: what a node had sent came ahead of what it sends; what others sent did
// not, unless it had come.
func TestDirect(t *testing.T) {
	a, b, c := of(0, 0, 1, "a"), of(0, 0, 2, "b"), of(1, 0, 1, "c")
	marked(t, []int{7}, []api.Act{send(0, 0, "a"), send(0, 0, "b"), send(1, 0, "c")}, []api.Msg{a, b, c}, "...", "1..", "...")
	// Ahead of c only a came, and a not to who sent b; what comes later is too late.
	marked(t, []int{7}, []api.Act{send(0, 0, "a"), send(0, 0, "b"), come(0, 1), send(1, 0, "c"), come(0, 1)},
		[]api.Msg{a, b, of(1, 0, 2, "c")}, "...", "1..", "1..")
	marked(t, []int{7}, []api.Act{send(0, 0, "a"), send(0, 0, "b"), come(0, 1), come(0, 1), send(1, 0, "c")},
		[]api.Msg{a, b, of(1, 0, 3, "c")}, "...", "1..", "11.")
	// It came to another one, not to who sends.
	marked(t, []int{7}, []api.Act{send(0, 0, "a"), come(0, 2), send(1, 0, "c")}, []api.Msg{a, c}, "..", "..")
	// Two that crossed.
	marked(t, []int{7}, []api.Act{send(0, 0, "a"), send(1, 0, "c"), come(0, 1), come(1, 0), say(0, 0), say(1, 0)},
		[]api.Msg{a, c, null(0, 0, 2), null(1, 0, 2)}, "....", "....", "11..", "11..")
}

// K1: what came ahead of one that came ahead did, too, though it never came to
// that node; what came to the other node later did not.
func TestFar(t *testing.T) {
	a, b := of(0, 0, 1, "a"), of(1, 1, 2, "b")
	marked(t, []int{3, 6}, []api.Act{send(0, 0, "a"), come(0, 1), send(1, 1, "b"), come(1, 2), say(2, 1)},
		[]api.Msg{a, b, null(2, 1, 3)}, "...", "1..", "11.")
	marked(t, []int{3, 6}, []api.Act{send(0, 0, "a"), send(1, 1, "b"), come(0, 1), come(1, 2), say(2, 1)},
		[]api.Msg{a, of(1, 1, 1, "b"), null(2, 1, 2)}, "...", "...", ".1.")
	// By way of a Null, and of one's own that came of it.
	marked(t, []int{3, 6}, []api.Act{say(0, 0), come(0, 1), say(1, 0), say(1, 1), come(1, 2), send(2, 1, "c"), send(0, 0, "d")},
		[]api.Msg{null(0, 0, 1), null(1, 0, 2), null(1, 1, 3), of(2, 1, 4, "c"), of(0, 0, 2, "d")},
		".....", "1....", "11...", "111..", "1....")
}

// K1: Calm is passed over: nothing comes by it, and no Null is sent.
func TestCalm(t *testing.T) {
	acts := []api.Act{send(0, 0, "a"), send(1, 0, "b"), come(0, 1), send(1, 1, "c"), send(2, 1, "d")}
	sent := []api.Msg{of(0, 0, 1, "a"), of(1, 0, 1, "b"), of(1, 1, 2, "c"), of(2, 1, 1, "d")}
	for at := range len(acts) + 1 {
		marked(t, []int{3, 6}, slices.Insert(slices.Clone(acts), at, rest(), api.Act{Kind: api.ActCalm, One: -1, Two: 99, Body: "more than eight"}), sent,
			"....", "....", "11..", "....")
	}
}

// K1: an act that has an error changes nothing.
func TestErrors(t *testing.T) {
	acts := []api.Act{send(0, 0, "a"), come(0, 1), send(1, 1, "b"), come(1, 2), say(2, 1)}
	sent := []api.Msg{of(0, 0, 1, "a"), of(1, 1, 2, "b"), null(2, 1, 3)}
	for _, wrong := range []api.Act{
		{}, {Kind: 5}, {Kind: math.MinInt}, {Kind: math.MaxInt, One: -1}, send(0, 1, "z"), send(3, 0, "z"), send(-1, 0, "z"), send(0, 2, "z"),
		send(0, 0, "123456789"), send(math.MaxInt, math.MinInt, "z"), say(2, 0), say(0, -1), come(2, 2), come(0, 3), come(-1, 0), come(0, 2), come(2, 0),
	} {
		for at := range len(acts) + 1 {
			marked(t, []int{3, 6}, slices.Insert(slices.Clone(acts), at, wrong), sent, "...", "1..", "11.")
		}
	}
}

// K1: what is not named counts for nothing; a Null has no Body.
func TestNullBody(t *testing.T) {
	marked(t, []int{3, 6}, []api.Act{{Kind: api.ActNull, Body: "more than eight"}, {Kind: api.ActMove, One: 0, Two: 1, Body: "z"}, send(1, 0, "")},
		[]api.Msg{null(0, 0, 1), of(1, 0, 2, "")}, "..", "1.")
}

// K1: what could not come, as there is no room for it, came ahead of nothing.
func TestCouldNotCome(t *testing.T) {
	// Node 1 is alone in group 0, and holds as much as it may.
	var acts []api.Act
	for range api.MaxList {
		acts = append(acts, send(1, 0, "x"))
	}
	acts = append(acts, send(1, 0, "no room"), say(1, 1), come(1, 0), send(0, 1, "y"), come(0, 1), say(1, 1))
	sent, marks, e := Mark(3, []int{2, 3}, acts)
	last := len(sent) - 1
	if e != api.OK || len(sent) != api.MaxList+3 || sent[last-1] != of(0, 1, 42, "y") || sent[last] != null(1, 1, 42) {
		t.Fatalf("Mark: %v, error %d", sent, e)
	}
	for i := range sent {
		if marks[last][i] != (i < last-1) || marks[last-1][i] != (i < last-1) {
			t.Errorf("%v: %v ahead of y, %v ahead of the last one", sent[i], marks[last-1][i], marks[last][i])
		}
	}
	// A wire has no room for more: they are not sent.
	sent, marks, e = Mark(2, []int{3}, slices.Repeat([]api.Act{say(0, 0)}, api.MaxActs))
	if e != api.OK || len(sent) != api.MaxList || len(marks) != api.MaxList {
		t.Errorf("Mark: %d sent, %d rows, error %d", len(sent), len(marks), e)
	}
}

// K1: as many acts as there may be, each of them sends; each row has all.
func TestMany(t *testing.T) {
	sent, marks, e := Mark(1, []int{1}, slices.Repeat([]api.Act{say(0, 0)}, api.MaxActs))
	if e != api.OK || len(sent) != api.MaxActs || len(marks) != api.MaxActs {
		t.Fatalf("Mark: %d sent, %d rows, error %d", len(sent), len(marks), e)
	}
	for k, row := range marks {
		if sent[k] != null(0, 0, k+1) || len(row) != api.MaxActs {
			t.Fatalf("%v, with %d marks", sent[k], len(row))
		}
		for i, is := range row {
			if is != (i < k) {
				t.Errorf("%d ahead of %d: %v", i, k, is)
			}
		}
	}
}

// K1, P1: groups.Check's errors, then ErrMany; with an error nothing else.
func TestWrong(t *testing.T) {
	few, many := []api.Act{say(0, 0)}, make([]api.Act, api.MaxActs+1)
	for _, x := range []struct {
		nodes int
		l     []int
		acts  []api.Act
		want  api.Errno
	}{
		{0, []int{1}, few, api.ErrRange}, {5, nil, many, api.ErrRange}, {math.MinInt, []int{1}, nil, api.ErrRange}, {-1, []int{1}, many, api.ErrRange},
		{3, nil, few, api.ErrMany}, {3, []int{1, 1, 1, 1}, nil, api.ErrMany},
		{3, []int{8}, few, api.ErrForm}, {3, []int{3, 0}, many, api.ErrForm}, {3, []int{-1}, many, api.ErrForm},
		{3, []int{3, 6}, many, api.ErrMany}, {1, []int{1}, slices.Repeat([]api.Act{rest()}, api.MaxActs+1), api.ErrMany},
		{1, []int{1}, make([]api.Act, 5000), api.ErrMany},
	} {
		if m, marks, e := Mark(x.nodes, x.l, x.acts); m != nil || marks != nil || e != x.want {
			t.Errorf("Mark of %d nodes, groups %v, %d acts: %v, %v, error %d, not %d", x.nodes, x.l, len(x.acts), m, marks, e, x.want)
		}
	}
}

// K1, P2, P3: what is handed in stays, spare room too; rows share no memory.
func TestMemory(t *testing.T) {
	l, acts := []int{3, 6, 77}[:2], []api.Act{say(0, 0), come(0, 1), say(1, 0), say(1, 1), send(2, 1, "spare")}[:4]
	kept := slices.Clone(acts[:5])
	sent, marks, _ := Mark(3, l, acts)
	again, marksAgain, _ := Mark(3, l, acts)
	for k := range marks {
		sent[k].Body = "changed"
		marks[k][0] = !marks[k][0]
		_ = append(marks[k], true, true, true)
		if k+1 < len(marks) && marks[k+1][0] != marksAgain[k+1][0] {
			t.Errorf("row %d shares memory with the one behind it", k)
		}
	}
	want := []api.Msg{null(0, 0, 1), null(1, 0, 2), null(1, 1, 3)}
	if !slices.Equal(again, want) || !slices.Equal(rows(marksAgain), []string{"...", "1..", "11."}) {
		t.Errorf("the other answer is %v %q", again, rows(marksAgain))
	}
	if !slices.Equal(l[:3], []int{3, 6, 77}) || !slices.Equal(acts[:5], kept) {
		t.Errorf("%v and %v were left", l[:3], acts[:5])
	}
}

// draw has numbers for scripts; the same each time.
type draw uint64

func (d *draw) n(n int) int {
	*d = *d*6364136223846793005 + 1442695040888963407
	return int(uint64(*d) >> 33 % uint64(n))
}

// script is acts that are drawn, some of them wrong.
func script(r *draw, nodes, groups int) []api.Act {
	var acts []api.Act
	for k := range r.n(api.MaxActs + 1) {
		x := api.Act{Kind: 1 + r.n(3), One: r.n(nodes), Two: r.n(max(nodes, groups)), Body: fmt.Sprint(k)}
		if r.n(2) == 0 {
			x.Kind = api.ActMove
		}
		if r.n(25) == 0 {
			x.Kind = r.n(6)
		}
		acts = append(acts, x)
	}
	return acts
}

// byHand is what Mark must answer, by another road: what came ahead at once is
// written down act by act, and then each one is gone on from.
func byHand(w api.World, acts []api.Act) ([]api.Msg, [][]bool, api.World) {
	var sent []api.Msg
	var marks [][]bool
	knows := make([]map[int]bool, len(w.Nodes))
	for n := range knows {
		knows[n] = map[int]bool{}
	}
	for _, x := range acts {
		var next api.World
		var e api.Errno
		switch x.Kind {
		case api.ActCast:
			next, e = cast.Send(w, x.One, x.Two, x.Body)
		case api.ActNull:
			next, e = cast.Null(w, x.One, x.Two)
		case api.ActMove:
			next, e = move.One(w, x.One, x.Two)
		default:
			continue
		}
		if e != api.OK {
			continue
		}
		if x.Kind == api.ActMove {
			knows[x.Two][slices.Index(sent, w.Wires[x.One][x.Two][0])] = true
		} else {
			m := api.Msg{From: x.One, Group: x.Two, Stamp: w.Nodes[x.One].Clock + 1, Null: x.Kind == api.ActNull}
			if !m.Null {
				m.Body = x.Body
			}
			row := make([]bool, len(acts))
			for i := range knows[x.One] {
				row[i] = true
			}
			knows[x.One][len(sent)] = true
			sent, marks = append(sent, m), append(marks, row)
		}
		w = next
	}
	for i := range sent {
		marks[i] = marks[i][:len(sent)]
	}
	for by := range sent {
		for k := range sent {
			for i := range sent {
				marks[k][i] = marks[k][i] || marks[k][by] && marks[by][i]
			}
		}
	}
	return sent, marks, w
}

// K1, K2: whatever is done: what came ahead is as another road tells it, has
// the lesser Stamp, and to whom both are told it is told first.
func TestScripts(t *testing.T) {
	r := draw(12)
	pairs, twice := 0, 0
	for k := range 300 {
		nodes := 1 + r.n(4)
		l := make([]int, 1+r.n(3))
		for g := range l {
			l[g] = 1 + r.n(1<<nodes-1) | r.n(1<<nodes)
		}
		acts := script(&r, nodes, len(l))
		sent, marks, e := Mark(nodes, l, acts)
		w, _ := world.Begin(nodes, l)
		wantSent, wantMarks, w := byHand(w, acts)
		if e != api.OK || !slices.Equal(sent, wantSent) || !slices.Equal(rows(marks), rows(wantMarks)) {
			t.Fatalf("script %d: error %d\n%v %q, not\n%v %q", k, e, sent, rows(marks), wantSent, rows(wantMarks))
		}
		w, e = calm.Calm(w)
		if e != api.OK {
			t.Fatalf("script %d: Calm: %d", k, e)
		}
		for b, row := range marks {
			for a, is := range row {
				if !is {
					continue
				}
				pairs++
				if sent[a].Stamp >= sent[b].Stamp {
					t.Fatalf("script %d: %v came ahead of %v", k, sent[a], sent[b])
				}
				for n, x := range w.Nodes {
					first, second := slices.Index(x.Told, sent[a]), slices.Index(x.Told, sent[b])
					if first >= 0 && second >= 0 {
						twice++
						if first >= second {
							t.Fatalf("script %d: node %d was told %v", k, n, x.Told)
						}
					}
				}
			}
		}
	}
	if pairs < 5000 || twice < 2000 {
		t.Errorf("too little was done: %d ahead, %d told", pairs, twice)
	}
}

// K1: acts that are read from a log are marked like those that were written.
func TestFromLog(t *testing.T) {
	acts := []api.Act{send(0, 0, "a"), come(0, 1), rest(), send(1, 1, "b")}
	s := ""
	for _, x := range acts {
		b, _ := log.Write(x)
		s += b
	}
	read, _, _ := log.Replay(s)
	marked(t, []int{3, 6}, read, []api.Msg{of(0, 0, 1, "a"), of(1, 1, 2, "b")}, "..", "1.")
}
