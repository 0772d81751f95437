package verify

import (
	"gatehouse/api"
	"gatehouse/bound"
)

// ask is which ways lead on from a step that asks, the first one first.
func (w way) ask(s api.Step) ([]way, api.Errno) {
	a, b := w.registers[s.Dst], w.second(s)
	switch {
	case a.kind == None || b.kind == None:
		return nil, api.ErrNone
	case a.kind == Int && b.kind == Int:
		return w.askNumbers(s), api.OK
	case s.Code != api.Jeq && s.Code != api.Jne || s.Reg || s.Num != 0:
		return nil, api.ErrArg
	}
	return w.askPlace(s), api.OK
}

// askNumbers leads on by all ways that there may be.
func (w way) askNumbers(s api.Step) []way {
	var l []way
	if next := w.on(0); next.narrow(s, bound.Opposite(s.Code)) {
		l = append(l, next)
	}
	if led := w.on(s.Off); led.narrow(s, s.Code) {
		l = append(l, led)
	}
	return l
}

// narrow takes it that what a code asks of a step's two is so; false: it can't be.
func (w *way) narrow(s api.Step, code int) bool {
	a, b, ok := bound.Narrow(code, w.registers[s.Dst].at, w.second(s).at)
	// Of one register asked against itself two bounds are left, and it has but one.
	if !ok || s.Reg && s.Src == s.Dst {
		return ok
	}
	w.registers[s.Dst] = number(a)
	if s.Reg {
		w.registers[s.Src] = number(b)
	}
	return true
}

// askPlace leads on from Jeq or Jne against 0, of a place, or of a MAYBE, which is known from then on.
func (w way) askPlace(s api.Step) []way {
	zero, place := w.on(s.Off), w.on(0)
	if s.Code == api.Jne {
		zero, place = place, zero
	}
	if w.registers[s.Dst].kind != Maybe {
		return []way{place}
	}
	zero.registers[s.Dst] = number(bound.One(0))
	place.registers[s.Dst] = value{Cell, bound.One(0)}
	return []way{zero, place}
}
