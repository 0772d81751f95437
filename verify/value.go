package verify

import (
	"gatehouse/api"
	"gatehouse/bound"
)

// value is what is known of a register, or a slot: of which kind it is, and, of a number, between which ones it is, of a place, how far on.
type value struct {
	kind int
	at   bound.Bound
}

// number is a number that is between others.
func number(b bound.Bound) value { return value{Int, b} }

// isPlace says whether it is a place; a MAYBE is none as yet.
func (v value) isPlace() bool {
	return v.kind == Ctx || v.kind == Frame || v.kind == Cell
}

// wantNumber is what is wrong where a number is asked for.
func (v value) wantNumber() api.Errno {
	switch v.kind {
	case None:
		return api.ErrNone
	case Int:
		return api.OK
	}
	return api.ErrArg
}

// makes is what a code, Mov to Neg, makes of two.
func makes(code int, a, b value) (value, api.Errno) {
	switch {
	case b.kind == None || a.kind == None && code != api.Mov:
		return value{}, api.ErrNone
	case code == api.Mov:
		return b, api.OK
	case a.kind == Int && b.kind == Int:
		return number(bound.Does(code, a.at, b.at)), api.OK
	case a.isPlace() && b.kind == Int && (code == api.Add || code == api.Sub):
		return further(a.kind, bound.Does(code, a.at, b.at))
	case a.kind == Int && b.isPlace() && code == api.Add:
		return further(b.kind, bound.Does(code, a.at, b.at))
	}
	return value{}, api.ErrArg
}

// further is a place that has gone on; one that may be anywhere might have wrapped.
func further(kind int, at bound.Bound) (value, api.Errno) {
	if at == bound.All() {
		return value{}, api.ErrRange
	}
	return value{kind, at}, api.OK
}

// room are the words, or slots, that there are where a place of a kind leads to.
func room(kind int) bound.Bound {
	switch kind {
	case Ctx:
		return bound.Bound{Low: 0, High: api.Words - 1}
	case Frame:
		return bound.Bound{Low: -api.Slots, High: -1}
	}
	return bound.Bound{Low: 0, High: api.Width - 1}
}

// reach is which words, or slots, a place leads to, so much further on.
func (v value) reach(off int) (bound.Bound, api.Errno) {
	switch {
	case v.kind == None:
		return bound.Bound{}, api.ErrNone
	case !v.isPlace():
		return bound.Bound{}, api.ErrArg
	}
	to, inside := bound.Does(api.Add, v.at, bound.One(int64(off))), room(v.kind)
	if bound.Join(to, inside) != inside {
		return bound.Bound{}, api.ErrRange
	}
	return to, api.OK
}
