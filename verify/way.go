package verify

import (
	"gatehouse/api"
	"gatehouse/bound"
	"gatehouse/op"
)

// lost is the last of the registers, from 1 on, that have nothing behind a call.
const lost = 5

// way is one that is gone: the step that it has come to, and what is known there.
type way struct {
	step      int
	registers [api.Registers]value
	slots     [api.Slots]value
}

// begin is the way at the first step.
func begin() way {
	var w way
	w.registers[1] = value{Ctx, bound.One(0)}
	w.registers[api.Top] = value{Frame, bound.One(0)}
	return w
}

// on is the way at the next step, or so many further on.
func (w way) on(off int) way {
	w.step += 1 + off
	return w
}

// second is what the second one of a step's two has.
func (w *way) second(s api.Step) value {
	if s.Reg {
		return w.registers[s.Src]
	}
	return number(bound.One(s.Num))
}

// look is which ways lead on from a step, the first one first.
func (w way) look(s api.Step) ([]way, api.Errno) {
	var e api.Errno
	switch {
	case op.Asks(s.Code):
		return w.ask(s)
	case s.Code == api.Jump:
		return []way{w.on(s.Off)}, api.OK
	case s.Code == api.Exit:
		return nil, w.registers[0].wantNumber()
	case s.Code == api.Load:
		e = w.load(s)
	case s.Code == api.Store:
		e = w.store(s)
	case s.Code == api.Call:
		e = w.call(s.Num)
	default:
		e = w.change(s)
	}
	if e != api.OK {
		return nil, e
	}
	return []way{w.on(0)}, api.OK
}

// change puts into a register what a code, Mov to Neg, makes. Neg has no second one, but a number for it does no harm.
func (w *way) change(s api.Step) api.Errno {
	made, e := makes(s.Code, w.registers[s.Dst], w.second(s))
	if e == api.OK {
		w.registers[s.Dst] = made
	}
	return e
}

// load puts into a register what a place leads to. Words may have any number.
func (w *way) load(s api.Step) api.Errno {
	from := w.registers[s.Src]
	where, e := from.reach(s.Off)
	got := number(bound.All())
	if e == api.OK && from.kind == Frame {
		got, e = w.kept(where)
	}
	if e == api.OK {
		w.registers[s.Dst] = got
	}
	return e
}

// kept is what one slot has, or what several have, if all have numbers.
func (w *way) kept(where bound.Bound) (value, api.Errno) {
	l := w.slots[where.Low+api.Slots : where.High+api.Slots+1]
	if where == bound.One(where.Low) && l[0].kind != None {
		return l[0], api.OK
	}
	var numbers []bound.Bound
	for _, v := range l {
		if e := v.wantNumber(); e != api.OK {
			return value{}, e
		}
		numbers = append(numbers, v.at)
	}
	return number(joined(numbers)), api.OK
}

// store puts something where a place leads to. What a cell has is not kept, as a load of it tells any number.
func (w *way) store(s api.Step) api.Errno {
	into, v := w.registers[s.Dst], w.second(s)
	where, e := into.reach(s.Off)
	switch {
	case e != api.OK:
		return e
	case into.kind == Ctx:
		return api.ErrState
	case v.kind == None:
		return api.ErrNone
	case into.kind == Cell:
		return v.wantNumber()
	case where != bound.One(where.Low):
		return api.ErrRange
	}
	w.slots[where.Low+api.Slots] = v
	return api.OK
}

// call leaves what a call answers in register 0.
func (w *way) call(what int64) api.Errno {
	if what == api.Find || what == api.Emit {
		if e := w.registers[1].wantNumber(); e != api.OK {
			return e
		}
	}
	clear(w.registers[1 : lost+1])
	switch what {
	case api.Find:
		w.registers[0] = value{kind: Maybe}
	case api.Time:
		w.registers[0] = number(bound.All())
	default:
		w.registers[0] = number(bound.One(0))
	}
	return api.OK
}
