// Package msg: messages: see doc/02-msg.md.
package msg

import (
	"furlong/api"
	"furlong/groups"
)

// Check tells whether m may be a message among that many nodes, in groups l.
func Check(nodes int, l []int, m api.Msg) api.Errno {
	if e := groups.Check(nodes, l); e != api.OK {
		return e
	}
	outside := func(x, least, greatest int) bool { return x < least || x > greatest }
	switch {
	case outside(m.From, 0, nodes-1), outside(m.Group, 0, len(l)-1), outside(m.Stamp, 1, api.MaxStamp):
		return api.ErrRange
	case !groups.Has(l, m.Group, m.From):
		return api.ErrOut
	case len(m.Body) > api.MaxBody, m.Null && m.Body != "":
		return api.ErrForm
	}
	return api.OK
}

// Less tells whether a comes ahead of b: by Stamp, then by From.
func Less(a, b api.Msg) bool {
	if a.Stamp != b.Stamp {
		return a.Stamp < b.Stamp
	}
	return a.From < b.From
}

// Put tells l with m where it belongs, in a new list.
func Put(l []api.Msg, m api.Msg) ([]api.Msg, api.Errno) {
	if !rises(l) {
		return nil, api.ErrForm
	}
	if len(l) >= api.MaxList {
		return nil, api.ErrMany
	}
	at := place(l, m)
	// l rises: only the one at m's own place can have its Stamp and From.
	if at < len(l) && !Less(m, l[at]) {
		return nil, api.ErrForm
	}
	out := make([]api.Msg, 0, len(l)+1)
	out = append(out, l[:at]...)
	out = append(out, m)
	return append(out, l[at:]...), api.OK
}

// rises tells whether each one is Less than the one behind it.
func rises(l []api.Msg) bool {
	for i := 1; i < len(l); i++ {
		if !Less(l[i-1], l[i]) {
			return false
		}
	}
	return true
}

// place tells how many of l, which rises, are Less than m.
func place(l []api.Msg, m api.Msg) int {
	at := 0
	for at < len(l) && Less(l[at], m) {
		at++
	}
	return at
}
