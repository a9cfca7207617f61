package wire

import (
	"fmt"
	"reflect"
	"slices"
	"strings"
	"testing"

	"furlong/api"
	"furlong/calm"
	"furlong/cast"
	"furlong/log"
	"furlong/world"
)

// of is a message of node n to group g.
func of(n, g, stamp int, body string) api.Msg {
	return api.Msg{From: n, Group: g, Stamp: stamp, Body: body}
}

// run is that many messages of node n to group 0, from Stamp 1 on.
func run(n, many int, body string) []api.Msg {
	var l []api.Msg
	for i := range many {
		l = append(l, of(n, 0, i+1, body))
	}
	return l
}

// begin is the world of these nodes and groups, ahead of all messages.
func begin(t *testing.T, nodes int, l ...int) api.World {
	t.Helper()
	w, e := world.Begin(nodes, l)
	if e != api.OK {
		t.Fatalf("Begin(%d, %v): %d", nodes, l, e)
	}
	return w
}

// full is a world that has something in each place, each number its own.
func full(t *testing.T) api.World {
	t.Helper()
	w := begin(t, 3, 3, 6)
	w.Nodes[0] = api.Node{Clock: 0x010203, Last: [][]int{{5, 0x0a0b0c, 0}, {0, 0, 0}},
		Held: []api.Msg{of(0, 0, 4, "d"), of(1, 0, 4, "")}, Told: []api.Msg{of(1, 0, api.MaxStamp, "\x00\xff\n34567")}}
	w.Nodes[1] = api.Node{Clock: api.MaxStamp, Last: [][]int{{7, 8, 0}, {0, 9, 256}}, Held: []api.Msg{of(2, 1, 65536, "e")}}
	w.Nodes[2].Told = []api.Msg{of(1, 1, 255, "hi")}
	w.Wires[0][1] = []api.Msg{of(0, 0, 1, "x"), {From: 0, Group: 0, Stamp: 2, Null: true}}
	w.Wires[1][0] = []api.Msg{of(1, 0, 3, "")}
	w.Wires[1][2] = []api.Msg{of(1, 1, 6, "y")}
	w.Wires[2][1] = []api.Msg{{From: 2, Group: 1, Stamp: 11, Null: true}}
	if e := world.Check(w); e != api.OK {
		t.Fatalf("Check: %d", e)
	}
	return w
}

// fullBytes is the same as bytes, written by hand.
const fullBytes = "\x02\x03\x06" + "\x03" +
	"\x01\x02\x03" + "\x00\x00\x05\x0a\x0b\x0c\x00\x00\x00" + "\x00\x00\x00\x00\x00\x00\x00\x00\x00" +
	"\x02" + "\x00\x00\x00\x01d\x00\x00\x04" + "\x01\x00\x00\x00\x00\x00\x04" +
	"\x01" + "\x01\x00\x00\x08\x00\xff\n34567\x10\x00\x00" +
	"\x10\x00\x00" + "\x00\x00\x07\x00\x00\x08\x00\x00\x00" + "\x00\x00\x00\x00\x00\x09\x00\x01\x00" +
	"\x01" + "\x02\x01\x00\x01e\x01\x00\x00" + "\x00" +
	"\x00\x00\x00" + "\x00\x00\x00\x00\x00\x00\x00\x00\x00" + "\x00\x00\x00\x00\x00\x00\x00\x00\x00" +
	"\x00" + "\x01" + "\x01\x01\x00\x02hi\x00\x00\xff" +
	"\x00" + "\x02" + "\x00\x00\x00\x01x\x00\x00\x01" + "\x00\x00\x01\x00\x00\x00\x02" + "\x00" +
	"\x01" + "\x01\x00\x00\x00\x00\x00\x03" + "\x00" + "\x01" + "\x01\x01\x00\x01y\x00\x00\x06" +
	"\x00" + "\x01" + "\x02\x01\x01\x00\x00\x00\x0b" + "\x00"

// text is a world as a text; lists without elements are the same in it.
func text(w api.World) string { return fmt.Sprintf("%+v", w) }

// written asks that w is these bytes, and that they are w.
func written(t *testing.T, w api.World, want string) {
	t.Helper()
	b, e := Write(w)
	if b != want || e != api.OK {
		t.Errorf("Write: error %d\n%q\nnot\n%q", e, b, want)
	}
	reads(t, want, w)
}

// reads asks that b is read as that world.
func reads(t *testing.T, b string, want api.World) {
	t.Helper()
	if w, e := Read(b); e != api.OK || text(w) != text(want) {
		t.Errorf("Read %q: error %d\n%+v\nnot\n%+v", b, e, w, want)
	}
}

// refuses asks that b is no world's bytes, and that nothing else is answered.
func refuses(t *testing.T, b string, want api.Errno) {
	t.Helper()
	if w, e := Read(b); e != want || w.Groups != nil || w.Nodes != nil || w.Wires != nil {
		t.Errorf("Read %.300q: error %d, not %d; %+v", b, e, want, w)
	}
}

// L1, the twelfth example: a world behind one cast has 98 bytes.
func TestExample(t *testing.T) {
	w, _ := cast.Send(begin(t, 3, 3, 6), 0, 0, "a")
	b, e := Write(w)
	if len(b) != 98 || e != api.OK {
		t.Errorf("Write: %d bytes, error %d", len(b), e)
	}
	none := strings.Repeat("\x00", 18)
	a := "\x01\x00\x00\x00\x01a\x00\x00\x01"
	written(t, w, "\x02\x03\x06\x03\x00\x00\x01"+none+a+"\x00"+"\x00\x00\x00"+none+"\x00\x00"+"\x00\x00\x00"+none+"\x00\x00"+
		"\x00"+a+"\x00\x00\x00\x00\x00\x00\x00")
}

// L1: each thing has its place.
func TestFull(t *testing.T) {
	written(t, full(t), fullBytes)
	written(t, begin(t, 1, 1), "\x01\x01\x01\x00\x00\x00\x00\x00\x00\x00\x00\x00")
	written(t, begin(t, 2, 2, 1, 3), "\x03\x02\x01\x03\x02"+strings.Repeat("\x00", 2*(3+18+2)+4))
	written(t, begin(t, 4, 15), "\x01\x0f\x04"+strings.Repeat("\x00", 4*(3+12+2)+16))
}

// L1: a Body of MaxBody bytes is the longest that is written, and is read.
func TestBody(t *testing.T) {
	for size := range api.MaxBody + 3 {
		w := begin(t, 1, 1)
		body := strings.Repeat("\xc3", size)
		w.Nodes[0].Told = []api.Msg{of(0, 0, 1, body)}
		b := "\x01\x01\x01\x00\x00\x00\x00\x00\x00\x00\x01\x00\x00\x00" + string(rune(size)) + body + "\x00\x00\x01\x00"
		if size <= api.MaxBody {
			written(t, w, b)
			continue
		}
		refuses(t, b, api.ErrForm)
		if got, e := Write(w); got != "" || e != api.ErrForm {
			t.Errorf("Write with a Body of %d: %q, error %d", size, got, e)
		}
	}
}

// L1, P1: Write tells world.Check's errors, in its order, and no bytes.
func TestWriteErrors(t *testing.T) {
	for name, x := range map[string]struct {
		turn func(w *api.World)
		want api.Errno
	}{
		"no nodes":           {func(w *api.World) { w.Nodes = nil; w.Groups = nil }, api.ErrRange},
		"five nodes":         {func(w *api.World) { w.Nodes = make([]api.Node, 5) }, api.ErrRange},
		"no groups":          {func(w *api.World) { w.Groups = nil; w.Nodes[0].Clock = -1 }, api.ErrMany},
		"a group of nobody":  {func(w *api.World) { w.Groups[0] = 0; w.Nodes[0].Held = make([]api.Msg, 41) }, api.ErrForm},
		"too much held":      {func(w *api.World) { w.Nodes[0].Held = run(0, 41, ""); w.Wires = nil }, api.ErrMany},
		"too much on a wire": {func(w *api.World) { w.Wires[0][1] = run(0, 41, "") }, api.ErrMany},
		"a clock below 0":    {func(w *api.World) { w.Nodes[0].Clock = -1 }, api.ErrForm},
		"a clock too far":    {func(w *api.World) { w.Nodes[0].Clock = api.MaxStamp + 1 }, api.ErrForm},
		"a clock of 2^24":    {func(w *api.World) { w.Nodes[0].Clock = 1 << 24 }, api.ErrForm},
		"no wires":           {func(w *api.World) { w.Wires = nil }, api.ErrForm},
		"a Null held":        {func(w *api.World) { w.Nodes[0].Held[0].Null = true }, api.ErrForm},
		"from nobody":        {func(w *api.World) { w.Nodes[0].Held[0].From = 256 }, api.ErrForm},
	} {
		w := full(t)
		x.turn(&w)
		if b, e := Write(w); b != "" || e != x.want {
			t.Errorf("Write, %s: %q, error %d, not %d", name, b, e, x.want)
		}
	}
	if b, e := Write(api.World{}); b != "" || e != api.ErrRange {
		t.Errorf("Write of nothing: %q, error %d", b, e)
	}
}

// L1: bytes that end too early, and bytes behind the end.
func TestReadCut(t *testing.T) {
	good := fullBytes
	for cut := range len(good) {
		refuses(t, good[:cut], api.ErrForm)
	}
	for b := range 256 {
		refuses(t, good+string([]byte{byte(b)}), api.ErrForm)
	}
	refuses(t, good+good, api.ErrForm)
	refuses(t, good[1:], api.ErrForm)
}

// one is a world of one node as bytes, with what it holds, and what is told.
func one(held, told string) string {
	return "\x01\x01\x01\x00\x00\x00\x00\x00\x00" + held + told + "\x00"
}

// many is that many messages as bytes, with rising Stamps.
func many(n int) string {
	s := string([]byte{byte(n)})
	for i := range n {
		s += string([]byte{0, 0, 0, 0, 0, 0, byte(i + 1)})
	}
	return s
}

// L1: what is no right world is ErrForm, whatever error it would be elsewhere.
func TestReadWrong(t *testing.T) {
	reads(t, one("\x00", many(1)), api.World{Groups: []int{1}, Nodes: []api.Node{{Last: [][]int{{0}}, Told: run(0, 1, "")}}, Wires: [][][]api.Msg{{nil}}})
	for _, x := range []string{
		"", "\x00", "\x00\x00", "\x00\x01\x00\x00\x00\x00\x00\x00", "\x01\x01\x00", "\x01\x00\x01" + strings.Repeat("\x00", 9),
		"\x01\x02\x01" + strings.Repeat("\x00", 9), "\x01\xff\x01" + strings.Repeat("\x00", 9),
		"\x04\x01\x01\x01\x01\x01" + strings.Repeat("\x00", 3+12+2+1), "\x01\x01\x05" + strings.Repeat("\x00", 5*(3+15+2)+25),
		"\xff" + strings.Repeat("\xff", 4000), strings.Repeat("\x00", api.MaxBytes), strings.Repeat("\x01", api.MaxBytes), strings.Repeat("\xff", api.MaxBytes),
		"\x00\xff" + strings.Repeat("\x00", 4000), "\x01\x01\xff" + strings.Repeat("\x00", 4000),
		one(many(api.MaxList+1), "\x00"), one("\x00", many(api.MaxList+1)), one("\x00", many(255)),
		one("\x01\x00\x00\x01\x00\x00\x00\x01", "\x00"), one("\x01\x00\x00\x02\x00\x00\x00\x01", "\x00"),
		one("\x01\x00\x00\xff\x00\x00\x00\x01", "\x00"), one("\x01\x00\x00\x00\x00\x00\x00\x00", "\x00"),
		one("\x01\x00\x00\x00\x00\x10\x00\x01", "\x00"), one("\x01\x00\x00\x00\x00\xff\xff\xff", "\x00"),
		one("\x01\x01\x00\x00\x00\x00\x00\x01", "\x00"), one("\x01\x00\x01\x00\x00\x00\x00\x01", "\x00"),
		one("\x02\x00\x00\x00\x00\x00\x00\x01\x00\x00\x00\x00\x00\x00\x01", "\x00"),
		one("\x00", "\x00")[:len(one("\x00", "\x00"))-1] + many(1),
		"\x01\x01\x01\x10\x00\x01" + strings.Repeat("\x00", 6), "\x01\x01\x01\x00\x00\x00\x10\x00\x01\x00\x00\x00",
	} {
		refuses(t, x, api.ErrForm)
	}
	reads(t, one(many(api.MaxList), many(api.MaxList)), api.World{Groups: []int{1}, Nodes: []api.Node{{Last: [][]int{{0}}, Held: run(0, api.MaxList, ""), Told: run(0, api.MaxList, "")}}, Wires: [][][]api.Msg{{nil}}})
	edge := begin(t, 1, 1)
	edge.Nodes[0].Clock, edge.Nodes[0].Last[0][0] = api.MaxStamp, api.MaxStamp
	reads(t, "\x01\x01\x01\x10\x00\x00\x10\x00\x00\x00\x00\x00", edge)
}

// L1: of a Null there is 1 or 0, and nothing else; it has no Body.
func TestReadNull(t *testing.T) {
	base := "\x01\x03\x02" + strings.Repeat("\x00", 2*(3+6+2)+1) + "\x01\x00\x00"
	for b := range 256 {
		for _, body := range []string{"\x00", "\x01b"} {
			s := base + string([]byte{byte(b)}) + body + "\x00\x00\x05\x00\x00"
			if b > 1 || b == 1 && body != "\x00" {
				refuses(t, s, api.ErrForm)
				continue
			}
			w := begin(t, 2, 3)
			w.Wires[0][1] = []api.Msg{{From: 0, Stamp: 5, Null: b == 1, Body: body[1:]}}
			written(t, w, s)
		}
	}
}

// big is a world of so many bytes: long messages fill its lists, up to one that
// is as short as it must be (so there are sizes that it can't have).
func big(t *testing.T, bytes int) api.World {
	t.Helper()
	w := begin(t, 3, 7)
	left := bytes - (3 + 3*(3+9+2) + 9)
	fill := func(from int) []api.Msg {
		l := run(from, min(api.MaxList, left/15), "12345678")
		left -= 15 * len(l)
		if len(l) < api.MaxList && left >= 7 {
			l = append(l, of(from, 0, len(l)+1, "12345678"[:left-7]))
			left = 0
		}
		return l
	}
	for n := range w.Nodes {
		w.Nodes[n].Held, w.Nodes[n].Told = fill(n), fill(0)
		for to := range w.Nodes {
			if to != n {
				w.Wires[n][to] = fill(n)
			}
		}
	}
	b, e := Write(w)
	if e != api.OK || len(b) != bytes {
		t.Fatalf("Write: %d bytes, error %d", len(b), e)
	}
	return w
}

// L1, L2: as many bytes as there may be; more are written, and not read.
func TestMany(t *testing.T) {
	for _, size := range []int{1008, api.MaxBytes - 7, api.MaxBytes} {
		w := big(t, size)
		b, _ := Write(w)
		reads(t, b, w)
	}
	for _, size := range []int{api.MaxBytes + 1, api.MaxBytes + 2, 7010} {
		b, _ := Write(big(t, size))
		refuses(t, b, api.ErrMany)
	}
	for _, x := range []string{"\x00", "\xff", "a"} {
		refuses(t, strings.Repeat(x, api.MaxBytes), api.ErrForm)
		refuses(t, strings.Repeat(x, api.MaxBytes+1), api.ErrMany)
	}
	refuses(t, fullBytes+strings.Repeat("\x00", api.MaxBytes), api.ErrMany)
}

// holds asks that b is read as a right world that is written so, or not at all.
func holds(t *testing.T, b string) bool {
	t.Helper()
	w, e := Read(b)
	if e != api.OK {
		refuses(t, b, api.ErrForm)
		return false
	}
	if again, f := Write(w); world.Check(w) != api.OK || again != b || f != api.OK {
		t.Errorf("Read %q: %+v, which is written %q, error %d", b, w, again, f)
	}
	return true
}

// draw has numbers for bytes and worlds; the same each time.
type draw uint64

func (d *draw) n(n int) int {
	*d = *d*6364136223846793005 + 1442695040888963407
	return int(uint64(*d) >> 33 % uint64(n))
}

// L2: nothing else is read: each byte changed to each other one, and any bytes.
func TestNothingElse(t *testing.T) {
	good := fullBytes
	read := 0
	for at := range len(good) {
		for b := range 256 {
			x := []byte(good)
			x[at] = byte(b)
			if holds(t, string(x)) {
				read++
			}
		}
	}
	r := draw(13)
	for range 20000 {
		x := []byte("\x01\x03\x02" + strings.Repeat("\x00", 2*(3+6+2)+4))
		for range r.n(6) {
			x[r.n(len(x))] = byte(r.n(4))
		}
		for range r.n(3) {
			x = slices.Insert(x, r.n(len(x)), make([]byte, 7)...)
		}
		if holds(t, string(x)) {
			read++
		}
	}
	for range 5000 {
		x := make([]byte, r.n(300))
		for i := range x {
			x[i] = byte(r.n([]int{2, 5, 256}[r.n(3)]))
		}
		holds(t, string(x))
	}
	if read < 10000 {
		t.Errorf("too little was read: %d", read)
	}
}

// L2: what is written is read as it was, whatever was done in the world.
func TestScripts(t *testing.T) {
	r := draw(14)
	messages := 0
	for range 60 {
		nodes := 1 + r.n(4)
		l := make([]int, 1+r.n(3))
		for g := range l {
			l[g] = 1 + r.n(1<<nodes-1)
		}
		w := begin(t, nodes, l...)
		for k := range 40 {
			x := api.Act{Kind: 1 + r.n(3), One: r.n(nodes), Two: r.n(max(nodes, len(l))), Body: fmt.Sprint(k * k)}
			if next, e := log.Do(w, x); e == api.OK {
				w = next
			}
			b, e := Write(w)
			if e != api.OK || len(b) > api.MaxBytes {
				t.Fatalf("Write: %d bytes, error %d", len(b), e)
			}
			reads(t, b, w)
		}
		for _, row := range w.Wires {
			messages += len(slices.Concat(row...))
		}
		w, _ = calm.Calm(w)
		b, _ := Write(w)
		reads(t, b, w)
		for _, x := range w.Nodes {
			messages += len(x.Told)
		}
	}
	if messages < 700 {
		t.Errorf("too little was done: %d messages", messages)
	}
}

// P2: what is handed in is only read; a later change of it is not seen.
func TestWriteMemory(t *testing.T) {
	w, kept := full(t), full(t)
	w.Groups = append(w.Groups, 77)[:2]
	w.Nodes[0].Held = append(w.Nodes[0].Held, of(7, 7, 7, "7"))[:2]
	b, e := Write(w)
	if e != api.OK || !reflect.DeepEqual(w, kept) || w.Groups[:3][2] != 77 || w.Nodes[0].Held[:3][2] != of(7, 7, 7, "7") {
		t.Errorf("error %d; %+v was left of %+v", e, w, kept)
	}
	if again, _ := Write(kept); b != again {
		t.Errorf("%q, and then %q", b, again)
	}
}

// P2, P3: an answer is new memory; no two lists of it share any.
func TestReadMemory(t *testing.T) {
	good := fullBytes
	w, _ := Read(good)
	_ = append(w.Groups, 99)
	for n := range w.Nodes {
		x := &w.Nodes[n]
		for g := range x.Last {
			_ = append(x.Last[g], 99, 99, 99)
		}
		_ = append(x.Last, []int{99})
		_ = append(x.Held, of(9, 9, 9, "9"))
		_ = append(x.Told, of(9, 9, 9, "9"))
		for to := range w.Wires[n] {
			_ = append(w.Wires[n][to], of(9, 9, 9, "9"))
		}
		_ = append(w.Wires[n], run(9, 9, "9"))
	}
	reads(t, good, w)
	w.Groups[0], w.Nodes[0].Clock, w.Nodes[1].Last[0][0], w.Nodes[0].Held[0].Body = 99, 99, 99, "99"
	reads(t, good, full(t))
}
