package machine

import (
	"gatehouse/api"
	"gatehouse/op"
)

// Kinds of what a register, or a slot, has.
const (
	none    = iota // nothing
	number         // a number
	inTold         // a place in what is told
	inFrame        // a place in the frame
	inCell         // a place in a cell
)

// value is what a register, or a slot, has: a number, or, of a place, how far on it is, and, if it is in a cell, in which one.
type value struct {
	kind int
	n    int64
	cell int
}

// num is a number as a value.
func num(n int64) value { return value{kind: number, n: n} }

// wantNumber is what is wrong where a number is asked for.
func (v value) wantNumber() api.Errno {
	switch v.kind {
	case none:
		return api.ErrNone
	case number:
		return api.OK
	}
	return api.ErrArg
}

// makes is what a code, Mov to Neg, makes of two.
func makes(code int, a, b value) (value, api.Errno) {
	switch {
	case b.kind == none || a.kind == none && code != api.Mov:
		return value{}, api.ErrNone
	case code == api.Mov:
		return b, api.OK
	case b.kind == number && (a.kind == number || code == api.Add || code == api.Sub):
		a.n = op.Does(code, a.n, b.n)
		return a, api.OK
	case a.kind == number && code == api.Add:
		b.n = op.Does(code, a.n, b.n)
		return b, api.OK
	}
	return value{}, api.ErrArg
}

// reach is which word, or slot, from the first one of all on, a place leads to, so much further on.
func (v value) reach(off int) (int64, api.Errno) {
	// A sum that wraps comes back inside, and is as good as any.
	to, there := v.n+int64(off), int64(api.Width)
	switch v.kind {
	case none:
		return 0, api.ErrNone
	case number:
		return 0, api.ErrArg
	case inTold:
		there = api.Words
	case inFrame:
		to, there = to+api.Slots, api.Slots
	}
	if to < 0 || to >= there {
		return 0, api.ErrRange
	}
	return to, api.OK
}
