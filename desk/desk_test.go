package desk

import (
	"fmt"
	"math"
	"slices"
	"strconv"
	"strings"
	"testing"

	"furlong/api"
	"furlong/bound"
	"furlong/calm"
	"furlong/cast"
	"furlong/move"
	"furlong/world"
)

// lines is what a script gives, a line each.
type lines []string

// plays asks that each line gives what stands behind it.
func plays(t *testing.T, nodes int, l []int, pairs ...string) {
	t.Helper()
	in, want := "", lines{}
	for i := 0; i < len(pairs); i += 2 {
		in += pairs[i] + "\n"
		want = append(want, pairs[i+1])
	}
	out, e := Play(nodes, l, in)
	if e != api.OK || out != want.text() {
		t.Errorf("Play %q: error %d\n%q\nnot\n%q", in, e, out, want.text())
	}
}

// text is the lines, with a line feed behind each.
func (l lines) text() string {
	s := ""
	for _, x := range l {
		s += x + "\n"
	}
	return s
}

// refuses asks that nothing is played, and for what error.
func refuses(t *testing.T, nodes int, l []int, s string, want api.Errno) {
	t.Helper()
	if out, e := Play(nodes, l, s); out != "" || e != want {
		t.Errorf("Play of %d nodes, groups %v, %.100q (%d bytes): %q, error %d, not %d", nodes, l, s, len(s), out, e, want)
	}
}

// M1, M2, the thirteenth example: told hi you, and b; it is as far as 7.
func TestExample(t *testing.T) {
	plays(t, 3, []int{3, 6},
		"send 0 0 hi you", "1", "held 0", "1 0", "send 2 1 b", "1", "move 0 1", "0", "held 1", "1 0", "told 1", "-",
		"calm", "ok", "told 1", "hi you b", "told 0", "hi you", "told 2", "b", "held 1", "0 7")
}

// M1: send gives the Stamp; BODY is all behind that blank.
func TestSend(t *testing.T) {
	plays(t, 3, []int{3, 6}, "send 1 0 a", "1", "send 1 1 b", "2", "send 0 0 c", "1", "move 1 0", "2", "send 0 0 d", "2", "move 1 2", "1", "send 2 1 e", "3")
	plays(t, 1, []int{1},
		"send 0 0 a b", "1", "told 0", "a b", "send 0 0  ", "2", "told 0", "a b  ", "send 0 0 \t\r\x00\xff 0 ", "3", "told 0", "a b   \t\r\x00\xff 0 ",
		"send 0 0 12345678", "4", "told 0", "a b   \t\r\x00\xff 0  12345678", "send 0 0 123456789", "error 1", "send 0 0         ", "5", "send 0 0          ", "error 1")
	plays(t, 1, []int{1}, "send 0 0 calm", "1", "send 0 0 -", "2", "told 0", "calm -")
}

// M1: an empty BODY is one, and is told like any other one.
func TestEmptyBody(t *testing.T) {
	plays(t, 1, []int{1}, "told 0", "-", "send 0 0 ", "1", "told 0", "", "send 0 0 ", "2", "told 0", " ", "send 0 0 x", "3", "told 0", "  x", "send 0 0", "error 1", "told 0", "  x")
}

// M1: null gives the Stamp, and nothing is held or told.
func TestNull(t *testing.T) {
	plays(t, 2, []int{3, 1}, "null 0 0", "1", "null 0 0", "2", "held 0", "0 0", "null 0 1", "3", "move 0 1", "0", "null 1 0", "2", "told 0", "-", "move 1 0", "0", "held 0", "0 2")
}

// M1: move gives how many were told by it to the second one: none, one, more.
func TestMove(t *testing.T) {
	plays(t, 2, []int{3}, "send 0 0 a", "1", "send 0 0 b", "2", "send 0 0 c", "3", "move 0 1", "1", "move 0 1", "1", "null 1 0", "3", "move 1 0", "3", "told 0", "a b c", "told 1", "a b",
		"move 1 0", "error 7", "move 0 1", "1", "move 0 1", "error 7", "told 1", "a b c")
	plays(t, 3, []int{3, 6}, "send 0 0 a", "1", "move 0 1", "0", "null 2 1", "1", "move 2 1", "1", "told 1", "a", "null 0 0", "2", "move 0 1", "0")
}

// M1: calm, and calm again; who is heard of by nobody.
func TestCalm(t *testing.T) {
	plays(t, 3, []int{3, 6}, "calm", "ok", "held 0", "0 7", "held 1", "0 6", "held 2", "0 8", "calm", "ok", "send 2 1 z", "17", "held 2", "1 16", "calm", "ok", "told 2", "z", "told 1", "z", "told 0", "-")
	plays(t, 3, []int{3}, "calm", "ok", "held 2", "0 0", "told 2", "-")
}

// M1: held gives how many a node holds, and how far it is.
func TestHeld(t *testing.T) {
	plays(t, 2, []int{3}, "held 0", "0 0", "send 0 0 a", "1", "send 0 0 b", "2", "held 0", "2 0", "held 1", "0 0", "null 1 0", "1", "held 0", "2 0", "move 1 0", "1", "held 0", "1 1", "move 0 1", "1", "held 1", "0 1", "move 0 1", "1", "held 1", "0 2")
}

// M1: the calls' own errors.
func TestCallErrors(t *testing.T) {
	plays(t, 3, []int{3, 6},
		"send 3 0 x", "error 4", "send 0 2 x", "error 4", "send 999999 0 x", "error 4", "send 0 999999 x", "error 4", "send 3 3 123456789", "error 4",
		"send 0 1 x", "error 5", "send 2 0 x", "error 5", "send 0 1 123456789", "error 5", "send 0 0 123456789", "error 1",
		"null 3 0", "error 4", "null 0 2", "error 4", "null 0 1", "error 5",
		"move 3 0", "error 4", "move 0 3", "error 4", "move 999999 999999", "error 4", "move 0 1", "error 7", "move 0 0", "error 7", "move 0 2", "error 7",
		"told 3", "error 4", "told 999999", "error 4", "held 3", "error 4", "held 999999", "error 4",
		"told 2", "-", "held 0", "0 0", "null 0 0", "1")
}

// M1: what has no room is an error of its call.
func TestRoom(t *testing.T) {
	var pairs []string
	for k := range api.MaxList {
		pairs = append(pairs, "send 0 0 x", strconv.Itoa(k+1))
	}
	full := slices.Concat(pairs, []string{"send 0 0 x", "error 2", "null 0 0", "error 2", "held 0", "40 0", "move 0 1", "1", "null 0 0", "41", "send 0 0 x", "error 2"})
	plays(t, 2, []int{3}, full...)
	full = slices.Concat(pairs, []string{"send 0 0 x", "error 2", "null 0 0", "41", "send 0 0 x", "error 2", "calm", "ok", "held 0", "0 45"})
	plays(t, 1, []int{1}, full...)
	full = slices.Concat(pairs, []string{"move 0 1", "1", "send 1 0 y", "2", "calm", "error 2", "held 0", "40 0", "held 1", "1 1", "told 0", "-"})
	plays(t, 2, []int{3}, full...)
}

// wrong is lines that are none.
func wrong() []string {
	l := []string{"", " ", "x", "calm ", " calm", "calm 0", "calm\r", "calm\t", "Calm", "CALM", "calmcalm", "cal", "calm calm", "ok", "error 1", "-", "\x00", "\xff",
		"send", "send ", "send 0", "send 0 ", "send 0 0", "send  0 0 x", "send 0  0 x", "send 0  x", " send 0 0 x", "send\t0 0 x", "send 0\t0 x", "send x 0 x", "send 0 x x", "Send 0 0 x",
		"null", "null ", "null 0", "null 0 ", "null 0 0 ", "null 0 0 0", "null 0 0 x", "null  0 0", "null 0  0", "null 0 0\r",
		"move", "move ", "move 0", "move 0 ", "move 0 1 ", "move 0 1 1", "move 0  1", "moves 0 1",
		"told", "told ", "told  0", "told 0 ", "told 0 0", "told x", "told0", "held", "held ", "held 0 ", "held 0 0", "held x", "held 0\x00"}
	for _, x := range []string{"00", "01", "000000", "+0", "-0", "+1", "-1", "0x0", "0b1", "0_0", "1_0", "0.0", "0.", "1e0", "a", "٠", "０", "0٠", "1000000", "0000000", "1234567", "99999999999999999999999999", "18446744073709551616", "\x00", "0\x00", "0\r", "\t0", "²"} {
		l = append(l, "told "+x, "held "+x, "null "+x+" 0", "null 0 "+x, "move "+x+" 1", "move 0 "+x, "send "+x+" 0 x", "send 0 "+x+" x")
	}
	return l
}

// M1: a line that is none of these; nothing has changed by it.
func TestWrongLines(t *testing.T) {
	for _, x := range wrong() {
		plays(t, 3, []int{3, 6}, x, "error 1", "send 0 0 a", "1", x, "error 1", "send 2 1 b", "1", "move 0 1", "0", x, "error 1", "move 2 1", "2", "told 1", "a b", x, "error 1", "held 1", "0 1")
	}
}

// M1: with an error nothing has changed, wherever it is, and whichever.
func TestNothingChanged(t *testing.T) {
	pairs := []string{"send 0 0 a", "1", "send 1 0 b", "1", "send 1 1 c", "2", "move 1 0", "2", "null 2 1", "1", "held 1", "2 0", "move 0 1", "0", "move 2 1", "2", "calm", "ok", "told 1", "a b c", "held 0", "0 9", "held 2", "0 10"}
	plays(t, 3, []int{3, 6}, pairs...)
	for _, x := range [][]string{{"send 0 1 z", "error 5"}, {"send 1 1 123456789", "error 1"}, {"send 3 0 z", "error 4"}, {"null 2 0", "error 5"}, {"move 1 1", "error 7"}, {"move 2 0", "error 7"}, {"move 0 3", "error 4"}, {"told 3", "error 4"}, {"held 4", "error 4"}, {"calm 1", "error 1"}} {
		for at := 0; at <= len(pairs); at += 2 {
			plays(t, 3, []int{3, 6}, slices.Insert(slices.Clone(pairs), at, x...)...)
		}
	}
}

// M1: numbers up to six digits are numbers: they only name nobody.
func TestNumbers(t *testing.T) {
	for _, x := range []string{"1", "2", "9", "10", "100", "12345", "100000", "123456", "999999"} {
		plays(t, 1, []int{1}, "told "+x, "error 4", "held "+x, "error 4", "null "+x+" 0", "error 4", "null 0 "+x, "error 4", "move "+x+" 0", "error 4", "move 0 "+x, "error 4", "send 0 "+x+" x", "error 4")
	}
}

// M1, M2: an empty script; lines up to MaxActs, and more; bytes up to MaxBytes.
func TestBounds(t *testing.T) {
	plays(t, 3, []int{3, 6})
	for _, n := range []int{1, api.MaxActs - 1, api.MaxActs} {
		for in, out := range map[string]string{"told 0": "-", "": "error 1", "x": "error 1"} {
			plays(t, 3, []int{3, 6}, slices.Repeat([]string{in, out}, n)...)
			refuses(t, 3, []int{3, 6}, strings.Repeat(in+"\n", n)+"calm", api.ErrForm)
		}
	}
	for _, n := range []int{api.MaxActs + 1, api.MaxActs + 2, 800} {
		for _, in := range []string{"told 0\n", "\n", "x\n"} {
			refuses(t, 3, []int{3, 6}, strings.Repeat(in, n), api.ErrMany)
			refuses(t, 3, []int{3, 6}, strings.Repeat(in, n)+"calm", api.ErrMany)
		}
	}
	long := strings.Repeat("x", api.MaxBytes-1)
	plays(t, 3, []int{3, 6}, long, "error 1")
	plays(t, 3, []int{3, 6}, "send 0 0 "+long[9:], "error 1")
	plays(t, 3, []int{3, 6}, "calm", "ok", long[7:], "error 1", "", "error 1")
	refuses(t, 3, []int{3, 6}, long+"x", api.ErrForm)
	refuses(t, 3, []int{3, 6}, long+"x\n", api.ErrMany)
	refuses(t, 3, []int{3, 6}, long+"xx", api.ErrMany)
	refuses(t, 3, []int{3, 6}, "calm\n"+long, api.ErrMany)
	for _, x := range []string{"c", "calm", "calm\n ", "calm\nx", "\n\ncalm\r", "\r", "\x00", " "} {
		refuses(t, 3, []int{3, 6}, x, api.ErrForm)
	}
}

// M1, P1: groups.Check's errors first, in its order.
func TestGroups(t *testing.T) {
	for _, s := range []string{"", "calm\n", "calm", "x\n", strings.Repeat("\n", api.MaxActs+1), strings.Repeat("x", api.MaxBytes+1)} {
		for _, nodes := range []int{math.MinInt, -1, 0, 5, math.MaxInt} {
			refuses(t, nodes, []int{3, 6}, s, api.ErrRange)
			refuses(t, nodes, nil, s, api.ErrRange)
		}
		refuses(t, 3, nil, s, api.ErrMany)
		refuses(t, 3, []int{}, s, api.ErrMany)
		refuses(t, 3, []int{0, 0, 0, 0}, s, api.ErrMany)
		refuses(t, 3, []int{3, 0}, s, api.ErrForm)
		refuses(t, 3, []int{8}, s, api.ErrForm)
		refuses(t, 3, []int{-1}, s, api.ErrForm)
	}
	plays(t, 4, []int{15, 8, 12}, "send 3 1 x", "1", "told 3", "-", "null 3 2", "2", "calm", "ok", "told 3", "x", "told 0", "-")
}

// P2, P3: the groups are only read, the spare room too; the same gives the same.
func TestMemory(t *testing.T) {
	l := []int{3, 6, 77, 78}[:2]
	s := "send 0 0 a\nmove 0 1\ncalm\ntold 1\nheld 1\n"
	first, _ := Play(3, l, s)
	_, _ = Play(3, []int{7}, "send 1 0 b\ncalm\n")
	again, e := Play(3, l, s)
	if first != again || e != api.OK || !slices.Equal(l[:4], []int{3, 6, 77, 78}) {
		t.Errorf("%q, then %q, error %d; groups %v", first, again, e, l[:4])
	}
}

// draw has numbers for scripts; the same each time.
type draw uint64

func (d *draw) n(n int) int {
	*d = *d*6364136223846793005 + 1442695040888963407
	return int(uint64(*d) >> 33 % uint64(n))
}

// hand is a world in which the calls are made by hand.
type hand struct{ w api.World }

// do answers like the desk, by numbers of a line and not by its words.
func (h *hand) do(kind, one, two int, body string) (string, string) {
	next, e := api.World{}, api.OK
	line, out := "", func() string { return "ok" }
	switch kind {
	case 0:
		line = fmt.Sprintf("send %d %d %s", one, two, body)
		next, e = cast.Send(h.w, one, two, body)
		out = func() string { return fmt.Sprint(next.Nodes[one].Clock) }
	case 1:
		line = fmt.Sprintf("null %d %d", one, two)
		next, e = cast.Null(h.w, one, two)
		out = func() string { return fmt.Sprint(next.Nodes[one].Clock) }
	case 2:
		line = fmt.Sprintf("move %d %d", one, two)
		next, e = move.One(h.w, one, two)
		out = func() string { return fmt.Sprint(len(next.Nodes[two].Told) - len(h.w.Nodes[two].Told)) }
	case 3:
		line = "calm"
		next, e = calm.Calm(h.w)
	case 4:
		line = fmt.Sprintf("held %d", one)
		far, wrong := bound.Of(h.w, one)
		next, e = h.w, wrong
		out = func() string { return fmt.Sprint(len(h.w.Nodes[one].Held), far) }
	default:
		line = fmt.Sprintf("told %d", one)
		next = h.w
		if one >= len(h.w.Nodes) {
			e = api.ErrNone
		}
		out = func() string {
			if len(h.w.Nodes[one].Told) == 0 {
				return "-"
			}
			s := ""
			for _, m := range h.w.Nodes[one].Told {
				s += " " + m.Body
			}
			return s[1:]
		}
	}
	if e != api.OK {
		return line, fmt.Sprintf("error %d", e)
	}
	gives := out()
	h.w = next
	return line, gives
}

// M1, M2: whatever is played, each line gives what its call answers.
func TestScripts(t *testing.T) {
	r := draw(15)
	seen := map[string]int{}
	for range 150 {
		nodes := 1 + r.n(4)
		l := make([]int, 1+r.n(3))
		for g := range l {
			l[g] = 1 + r.n(1<<nodes-1)
		}
		w, _ := world.Begin(nodes, l)
		h := &hand{w}
		var pairs []string
		for k := range api.MaxActs {
			kind := []int{0, 0, 1, 2, 2, 2, 2, 4, 5}[r.n(9)]
			if r.n(25) == 0 {
				kind = 3
			}
			one, two := r.n(nodes), r.n(nodes)
			if kind < 2 {
				two = r.n(len(l))
			}
			if r.n(30) == 0 {
				one = nodes
			}
			line, out := h.do(kind, one, two, fmt.Sprint(k))
			pairs = append(pairs, line, out)
			seen[out]++
		}
		plays(t, nodes, l, pairs...)
	}
	for _, x := range []string{"0", "1", "2", "ok", "-", "error 4", "error 5", "error 7", "0 0"} {
		if seen[x] < 20 {
			t.Errorf("too few lines gave %q: %d", x, seen[x])
		}
	}
}
