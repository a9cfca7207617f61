package log

import (
	"fmt"
	"math"
	"reflect"
	"slices"
	"strings"
	"testing"

	"furlong/api"
	"furlong/calm"
	"furlong/cast"
	"furlong/move"
	"furlong/world"
)

// of is a message of node n to group g.
func of(n, g, stamp int, body string) api.Msg {
	return api.Msg{From: n, Group: g, Stamp: stamp, Body: body}
}

// run is a rising list of that many messages of node n to group 0, from Stamp first on.
func run(n, first, many int) []api.Msg {
	var l []api.Msg
	for i := range many {
		l = append(l, of(n, 0, first+i, "x"))
	}
	return l
}

// begin is the world of these nodes and groups, ahead of all messages.
func begin(t *testing.T, nodes int, l ...int) api.World {
	t.Helper()
	w, e := world.Begin(nodes, l)
	if e != api.OK {
		t.Fatalf("Begin(%d, %v): %d", nodes, l, e)
	}
	return w
}

// busy is a world in which each act has something to do: a and b are on their
// way to node 1.
func busy(t *testing.T) api.World {
	t.Helper()
	w, _ := cast.Send(begin(t, 3, 3, 6), 0, 0, "a")
	w, e := cast.Send(w, 2, 1, "b")
	if e != api.OK {
		t.Fatalf("Send: %d", e)
	}
	return w
}

// text is a world as a text; lists without elements are the same in it.
func text(w api.World) string { return fmt.Sprintf("%+v", w) }

// does asks that x does with w what a call answered.
func does(t *testing.T, w api.World, x api.Act, want api.World, wantErr api.Errno) {
	t.Helper()
	if got, e := Do(w, x); e != wantErr || text(got) != text(want) {
		t.Errorf("Do %+v: error %d\n%+v\nnot %d\n%+v", x, e, got, wantErr, want)
	}
}

// refuses asks that x has that error, and that nothing else is answered.
func refuses(t *testing.T, w api.World, x api.Act, want api.Errno) {
	t.Helper()
	if got, e := Do(w, x); e != want || got.Groups != nil || got.Nodes != nil || got.Wires != nil {
		t.Errorf("Do %+v: error %d, not %d; %+v", x, e, want, got)
	}
}

// J1: each kind does what its call does; what is not named counts for nothing.
func TestDo(t *testing.T) {
	w := busy(t)
	sent, e := cast.Send(w, 1, 0, "hi")
	does(t, w, api.Act{Kind: api.ActCast, One: 1, Two: 0, Body: "hi"}, sent, e)
	if m := of(1, 0, 1, "hi"); e != api.OK || !slices.Equal(sent.Wires[1][0], []api.Msg{m}) {
		t.Errorf("%v is on its way, not %v", sent.Wires[1][0], m)
	}
	sent, e = cast.Send(w, 1, 1, "")
	does(t, w, api.Act{Kind: api.ActCast, One: 1, Two: 1}, sent, e)
	null, e := cast.Null(w, 2, 1)
	does(t, w, api.Act{Kind: api.ActNull, One: 2, Two: 1}, null, e)
	does(t, w, api.Act{Kind: api.ActNull, One: 2, Two: 1, Body: "more than eight"}, null, e)
	moved, e := move.One(w, 2, 1)
	does(t, w, api.Act{Kind: api.ActMove, One: 2, Two: 1}, moved, e)
	does(t, w, api.Act{Kind: api.ActMove, One: 2, Two: 1, Body: "more than eight"}, moved, e)
	calmed, e := calm.Calm(w)
	does(t, w, api.Act{Kind: api.ActCalm}, calmed, e)
	does(t, w, api.Act{Kind: api.ActCalm, One: -1, Two: 99, Body: "more than eight"}, calmed, e)
	if text(null) == text(w) || text(moved) == text(w) || text(calmed) == text(w) || e != api.OK {
		t.Errorf("an act does nothing: %d", e)
	}
}

// J1: their errors.
func TestDoErrors(t *testing.T) {
	w := busy(t)
	for _, x := range []struct {
		act  api.Act
		want api.Errno
	}{
		{api.Act{Kind: api.ActCast, One: 3}, api.ErrNone},
		{api.Act{Kind: api.ActCast, One: -1}, api.ErrNone},
		{api.Act{Kind: api.ActCast, Two: 2}, api.ErrNone},
		{api.Act{Kind: api.ActCast, Two: math.MinInt}, api.ErrNone},
		{api.Act{Kind: api.ActCast, One: 0, Two: 1}, api.ErrOut},
		{api.Act{Kind: api.ActCast, Body: "123456789"}, api.ErrForm},
		{api.Act{Kind: api.ActNull, One: math.MaxInt}, api.ErrNone},
		{api.Act{Kind: api.ActNull, One: 2, Two: 0}, api.ErrOut},
		{api.Act{Kind: api.ActMove, One: 0, Two: 3}, api.ErrNone},
		{api.Act{Kind: api.ActMove, One: -1, Two: 1}, api.ErrNone},
		{api.Act{Kind: api.ActMove, One: 1, Two: 0}, api.ErrEmpty},
		{api.Act{Kind: api.ActMove, One: 1, Two: 1}, api.ErrEmpty},
	} {
		refuses(t, w, x.act, x.want)
	}
	w.Nodes[0].Clock = api.MaxStamp
	refuses(t, w, api.Act{Kind: api.ActCast}, api.ErrRange)
	refuses(t, w, api.Act{Kind: api.ActNull}, api.ErrRange)
	refuses(t, w, api.Act{Kind: api.ActCalm}, api.ErrRange)
	w.Nodes[1].Held = run(0, 2, api.MaxList)
	refuses(t, w, api.Act{Kind: api.ActMove, One: 0, Two: 1}, api.ErrMany)
}

// J1, P1: no such kind, whatever else is wrong.
func TestDoKind(t *testing.T) {
	for _, kind := range []int{math.MinInt, -1, 0, 5, 6, 255, 256 + api.ActCast, 1<<32 + api.ActCast, math.MaxInt} {
		refuses(t, busy(t), api.Act{Kind: kind, One: 1, Body: "hi"}, api.ErrKind)
		refuses(t, busy(t), api.Act{Kind: kind, One: -1, Two: 9, Body: "123456789"}, api.ErrKind)
		refuses(t, api.World{}, api.Act{Kind: kind}, api.ErrKind)
	}
	for kind := api.ActCast; kind <= api.ActCalm; kind++ {
		refuses(t, api.World{}, api.Act{Kind: kind}, api.ErrRange)
		w := busy(t)
		w.Wires = nil
		refuses(t, w, api.Act{Kind: kind, One: -1, Two: -1, Body: "123456789"}, api.ErrForm)
		w.Groups = nil
		refuses(t, w, api.Act{Kind: kind, One: -1, Two: -1, Body: "123456789"}, api.ErrMany)
	}
}

// J1, P2: the world that is handed in stays as it was.
func TestDoMemory(t *testing.T) {
	w, kept := busy(t), busy(t)
	for _, x := range []api.Act{{Kind: api.ActCast, One: 1}, {Kind: api.ActNull, One: 1}, {Kind: api.ActMove, Two: 1}, {Kind: api.ActCalm}, {Kind: 5}} {
		got, _ := Do(w, x)
		for n := range got.Nodes {
			got.Nodes[n].Clock = 99
			got.Nodes[n].Last[0][0] = 99
			got.Wires[n][0] = append(got.Wires[n][0], of(7, 7, 7, "7"))
		}
	}
	if !reflect.DeepEqual(w, kept) {
		t.Errorf("%+v was left of %+v", w, kept)
	}
}

// written asks that x is these bytes, and that they are x.
func written(t *testing.T, x api.Act, want string) {
	t.Helper()
	if b, e := Write(x); b != want || e != api.OK {
		t.Errorf("Write %+v: %q, error %d, not %q", x, b, e, want)
	}
	replays(t, want, len(want), x)
}

// replays asks that t begins with these acts, which have that many bytes.
func replays(t *testing.T, s string, size int, want ...api.Act) {
	t.Helper()
	if l, n, e := Replay(s); !slices.Equal(l, want) || n != size || e != api.OK {
		t.Errorf("Replay of %d bytes: %+v, %d, error %d, not %+v, %d", len(s), l, n, e, want, size)
	}
}

// J2, the tenth example: a cast of hi is six bytes.
func TestWrite(t *testing.T) {
	written(t, api.Act{Kind: api.ActCast, One: 1, Body: "hi"}, "\x01\x01\x00\x02hi")
	written(t, api.Act{Kind: api.ActNull, One: 2, Two: 1}, "\x02\x02\x01\x00")
	written(t, api.Act{Kind: api.ActMove, One: 0, Two: 3, Body: "\x00\xff\n"}, "\x03\x00\x03\x03\x00\xff\n")
	written(t, api.Act{Kind: api.ActCalm}, "\x04\x00\x00\x00")
	// What can't be done is written, too.
	written(t, api.Act{}, "\x00\x00\x00\x00")
	written(t, api.Act{Kind: 255, One: 254, Two: 253, Body: "123456789"}, "\xff\xfe\xfd\x09123456789")
	long := strings.Repeat("\xc3", 255)
	written(t, api.Act{Kind: 255, One: 255, Two: 255, Body: long}, "\xff\xff\xff\xff"+long)
}

// J2: a number that is no byte, each of the four.
func TestWriteRange(t *testing.T) {
	for _, x := range []int{math.MinInt, -256, -1, 256, 257, 1 << 32, math.MaxInt} {
		for _, act := range []api.Act{{Kind: x, Body: "b"}, {Kind: 1, One: x, Body: "b"}, {Kind: 1, Two: x, Body: "b"}} {
			if b, e := Write(act); b != "" || e != api.ErrRange {
				t.Errorf("Write %+v: %q, error %d", act, b, e)
			}
		}
	}
	for _, n := range []int{256, 257, 512, 5000} {
		if b, e := Write(api.Act{Kind: 1, Body: strings.Repeat("b", n)}); b != "" || e != api.ErrRange {
			t.Errorf("Write with a Body of %d: %q, error %d", n, b, e)
		}
	}
}

// J2: wherever the text ends, the acts that are whole are told.
func TestReplayCut(t *testing.T) {
	acts := []api.Act{{Kind: 1, One: 1, Body: "hi"}, {Kind: 9, One: 8, Two: 7}, {Kind: 3, Two: 2, Body: "\x00\x00\x00\x00"}, {}, {Kind: 4, Body: strings.Repeat("\xff", 255)}}
	s := ""
	var ends []int
	for _, x := range acts {
		b, _ := Write(x)
		s += b
		ends = append(ends, len(s))
	}
	for cut := range len(s) + 1 {
		whole, size := 0, 0
		for whole < len(ends) && ends[whole] <= cut {
			size = ends[whole]
			whole++
		}
		replays(t, s[:cut], size, acts[:whole]...)
	}
}

// J2: at most MaxActs are told, and the bytes of these.
func TestReplayMany(t *testing.T) {
	for _, n := range []int{0, 1, api.MaxActs - 1, api.MaxActs, api.MaxActs + 1, 100, api.MaxBytes / 5} {
		want := slices.Repeat([]api.Act{{Kind: 2, One: 1, Body: "b"}}, min(n, api.MaxActs))
		s := strings.Repeat("\x02\x01\x00\x01b", n)
		replays(t, s, 5*len(want), want...)
		if len(s)+3 <= api.MaxBytes {
			replays(t, s+"\x02\x01\x00", 5*len(want), want...)
		}
	}
}

// J2: as many bytes as there may be; one more is ErrMany, though all are told
// ahead of them.
func TestReplayLong(t *testing.T) {
	zeros := strings.Repeat("\x00", api.MaxBytes)
	replays(t, zeros, 4*api.MaxActs, make([]api.Act, api.MaxActs)...)
	long := strings.Repeat("\x01\x02\x03\xfc"+strings.Repeat("b", 252), 16)
	replays(t, long, api.MaxBytes, slices.Repeat([]api.Act{{Kind: 1, One: 2, Two: 3, Body: strings.Repeat("b", 252)}}, 16)...)
	replays(t, strings.Repeat("\xff", api.MaxBytes), 15*259, slices.Repeat([]api.Act{{Kind: 255, One: 255, Two: 255, Body: strings.Repeat("\xff", 255)}}, 15)...)
	for _, s := range []string{zeros + "\x00", long + "\x01", zeros + zeros} {
		if l, n, e := Replay(s); l != nil || n != 0 || e != api.ErrMany {
			t.Errorf("Replay of %d bytes: %+v, %d, error %d", len(s), l, n, e)
		}
		if w, n, e := Recover(3, []int{3, 6}, s); w.Nodes != nil || n != 0 || e != api.ErrMany {
			t.Errorf("Recover of %d bytes: %+v, %d, error %d", len(s), w, n, e)
		}
	}
}

// draw has numbers for scripts; the same each time.
type draw uint64

func (d *draw) n(n int) int {
	*d = *d*6364136223846793005 + 1442695040888963407
	return int(uint64(*d) >> 33 % uint64(n))
}

// J2: of any bytes, what is told was written so, and no act follows it.
func TestReplayAny(t *testing.T) {
	r := draw(10)
	acts := 0
	for range 500 {
		b, below := make([]byte, r.n(400)), []int{2, 6, 256}[r.n(3)]
		for i := range b {
			b[i] = byte(r.n(below))
		}
		l, size, e := Replay(string(b))
		if e != api.OK || len(l) > api.MaxActs {
			t.Fatalf("Replay of %q: %d acts, error %d", b, len(l), e)
		}
		s := ""
		for _, x := range l {
			one, _ := Write(x)
			s += one
		}
		rest := b[size:]
		if s != string(b[:size]) || len(l) < api.MaxActs && len(rest) >= 4 && len(rest) >= 4+int(rest[3]) {
			t.Fatalf("Replay of %q: %+v, %d", b, l, size)
		}
		acts += len(l)
	}
	if acts < 5000 {
		t.Errorf("too little was replayed: %d", acts)
	}
}

// recovers asks that from s such a world, and so many acts, are recovered.
func recovers(t *testing.T, s string, want api.World, many int) {
	t.Helper()
	if w, n, e := Recover(len(want.Nodes), want.Groups, s); text(w) != text(want) || n != many || e != api.OK {
		t.Errorf("Recover from %q: %d, error %d\n%+v\nnot %d\n%+v", s, n, e, w, many, want)
	}
}

// J3: the acts are done one behind the other, from Begin on; all are counted.
func TestRecover(t *testing.T) {
	recovers(t, "", begin(t, 3, 3, 6), 0)
	recovers(t, "\x01\x00\x00", begin(t, 3, 3, 6), 0)
	recovers(t, "\x01\x00\x00\x01a\x01\x02\x01\x01b", busy(t), 2)
	recovers(t, "\x01\x00\x00\x01a\x01\x02\x01\x01b\x03\x00\x01", busy(t), 2)
	moved, _ := move.One(busy(t), 0, 1)
	recovers(t, "\x01\x00\x00\x01a\x01\x02\x01\x01b\x03\x00\x01\x00", moved, 3)
	calmed, _ := calm.Calm(moved)
	recovers(t, "\x01\x00\x00\x01a\x01\x02\x01\x01b\x03\x00\x01\x00\x04\x09\x09\x00", calmed, 4)
	null, _ := cast.Null(busy(t), 1, 1)
	recovers(t, "\x01\x00\x00\x01a\x01\x02\x01\x01b\x02\x01\x01\x00", null, 3)
}

// J3: an act that has an error changes nothing, and those behind it are done.
func TestRecoverErrors(t *testing.T) {
	wrong := []string{"\x00\x00\x00\x00", "\x05\x00\x00\x00", "\xff\xff\xff\x01z", "\x01\x00\x01\x01z", "\x01\x03\x00\x01z", "\x01\x00\x00\x09123456789", "\x03\x01\x01\x00", "\x03\x01\x00\x00", "\x02\x00\x02\x00"}
	for _, x := range wrong {
		recovers(t, x, begin(t, 3, 3, 6), 1)
		recovers(t, x+"\x01\x00\x00\x01a"+x+"\x01\x02\x01\x01b"+x, busy(t), 5)
	}
	recovers(t, strings.Join(wrong, ""), begin(t, 3, 3, 6), len(wrong))
}

// J3: what is behind MaxActs is not done.
func TestRecoverMany(t *testing.T) {
	want := begin(t, 1, 1)
	want.Nodes[0].Clock = api.MaxActs - 1
	null, one := "\x02\x00\x00\x00", "\x01\x00\x00\x01x"
	recovers(t, strings.Repeat(null, api.MaxActs-1), want, api.MaxActs-1)
	want.Nodes[0].Clock, want.Nodes[0].Told = api.MaxActs, run(0, api.MaxActs, 1)
	recovers(t, strings.Repeat(null, api.MaxActs-1)+one, want, api.MaxActs)
	recovers(t, strings.Repeat(null, api.MaxActs-1)+one+one, want, api.MaxActs)
	// No room is left for what is told: the other half changes nothing.
	want.Nodes[0].Clock, want.Nodes[0].Told = api.MaxList, run(0, 1, api.MaxList)
	recovers(t, strings.Repeat(one, api.MaxActs), want, api.MaxActs)
}

// J3, P1: groups.Check's errors ahead of Replay's; with an error nothing else.
func TestRecoverGroups(t *testing.T) {
	for _, x := range []struct {
		nodes int
		l     []int
		want  api.Errno
	}{
		{0, []int{3, 6}, api.ErrRange}, {-1, nil, api.ErrRange}, {5, []int{0}, api.ErrRange}, {math.MinInt, []int{1}, api.ErrRange},
		{3, nil, api.ErrMany}, {3, []int{1, 1, 1, 8}, api.ErrMany},
		{3, []int{3, 8}, api.ErrForm}, {3, []int{0}, api.ErrForm}, {3, []int{-1}, api.ErrForm},
	} {
		for _, s := range []string{"", "\x04\x00\x00\x00", strings.Repeat("a", api.MaxBytes+1)} {
			if w, n, e := Recover(x.nodes, x.l, s); w.Groups != nil || w.Nodes != nil || w.Wires != nil || n != 0 || e != x.want {
				t.Errorf("Recover of %d nodes, groups %v: %+v, %d, error %d, not %d", x.nodes, x.l, w, n, e, x.want)
			}
		}
	}
}

// J3, P2: the groups are not kept.
func TestRecoverMemory(t *testing.T) {
	l := []int{3, 6, 77}[:2]
	w, _, _ := Recover(3, l, "")
	x, _, _ := Recover(3, l, "\x01\x00\x00\x01a\x01\x02\x01\x01b")
	w.Groups = append(w.Groups, 7)
	x.Groups[0] = 7
	if !slices.Equal(l[:3], []int{3, 6, 77}) {
		t.Errorf("the groups are %v", l[:3])
	}
	l[0], l[1] = 1, 1
	if w.Groups[0] != 3 || w.Groups[1] != 6 || x.Groups[1] != 6 {
		t.Errorf("a later change is seen: %v, %v", w.Groups, x.Groups)
	}
}

// J3: wherever a log is cut, what is recovered is what was done by the acts
// that are whole.
func TestRecoverCut(t *testing.T) {
	r := draw(11)
	done := 0
	for range 12 {
		w := begin(t, 3, 1+r.n(7), 1+r.n(7))
		s := ""
		for k := range 50 {
			x := api.Act{Kind: 1 + r.n(3), One: r.n(3), Two: r.n(3), Body: fmt.Sprint(k * k * k * k)[:1+r.n(k/25+1)]}
			if r.n(20) == 0 {
				x.Kind = r.n(6)
			}
			b, e := Write(x)
			if e != api.OK {
				t.Fatalf("Write %+v: %d", x, e)
			}
			for cut := range len(b) {
				recovers(t, s+b[:cut], w, k)
			}
			s += b
			if next, e := Do(w, x); e == api.OK {
				w = next
				done++
			}
			recovers(t, s, w, k+1)
		}
	}
	if done < 150 {
		t.Errorf("too little was done: %d", done)
	}
}
