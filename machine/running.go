package machine

import (
	"gatehouse/api"
	"gatehouse/op"
)

// lost is the last of the registers, from 1 on, that have nothing behind a call.
const lost = 5

// running is a program that runs: the step that it has come to, how many there were with it, and what there is.
type running struct {
	step, steps int
	registers   [api.Registers]value
	slots       [api.Slots]value
	words       [api.Words]int64
	cells       api.Table
	time        int64
	out         []int64
}

// begin is a program at its first step.
func begin(told [api.Words]int64, cells api.Table, time int64) *running {
	r := &running{words: told, cells: cells, time: time}
	r.registers[1] = value{kind: inTold}
	r.registers[api.Top] = value{kind: inFrame}
	return r
}

// goOn goes from step to step, to an Exit, or to one with which something is wrong.
func (r *running) goOn(l []api.Step) api.Errno {
	for {
		s := l[r.step]
		r.steps++
		if s.Code == api.Exit {
			return r.registers[0].wantNumber()
		}
		off, e := r.do(s)
		if e != api.OK {
			return e
		}
		r.step += 1 + off
	}
}

// do does a step that is no Exit, and says how far behind the next one it leads.
func (r *running) do(s api.Step) (int, api.Errno) {
	switch {
	case op.Asks(s.Code):
		return r.ask(s)
	case s.Code == api.Jump:
		return s.Off, api.OK
	case s.Code == api.Load:
		return 0, r.load(s)
	case s.Code == api.Store:
		return 0, r.store(s)
	case s.Code == api.Call:
		return 0, r.call(s.Num)
	}
	return 0, r.change(s)
}

// second is what the second one of a step's two has.
func (r *running) second(s api.Step) value {
	if s.Reg {
		return r.registers[s.Src]
	}
	return num(s.Num)
}

// change puts into a register what a code, Mov to Neg, makes. Neg has no second one, but a number for it does no harm.
func (r *running) change(s api.Step) api.Errno {
	made, e := makes(s.Code, r.registers[s.Dst], r.second(s))
	r.registers[s.Dst] = made
	return e
}

// ask says how far a step that asks leads on.
func (r *running) ask(s api.Step) (int, api.Errno) {
	a, b := r.registers[s.Dst], r.second(s)
	var so bool
	switch {
	case a.kind == none || b.kind == none:
		return 0, api.ErrNone
	case a.kind == number && b.kind == number:
		so = op.Is(s.Code, a.n, b.n)
	case s.Code != api.Jeq && s.Code != api.Jne || s.Reg || s.Num != 0:
		return 0, api.ErrArg
	default:
		// A place is never 0, however far on it is.
		so = s.Code == api.Jne
	}
	if so {
		return s.Off, api.OK
	}
	return 0, api.OK
}

// load puts into a register what a place leads to.
func (r *running) load(s api.Step) api.Errno {
	from := r.registers[s.Src]
	at, e := from.reach(s.Off)
	if e != api.OK {
		return e
	}
	var got value
	switch from.kind {
	case inTold:
		got = num(r.words[at])
	case inFrame:
		got = r.slots[at]
	case inCell:
		got = num(r.cells[from.cell][at])
	}
	if got.kind == none {
		return api.ErrNone
	}
	r.registers[s.Dst] = got
	return api.OK
}

// store puts something where a place leads to.
func (r *running) store(s api.Step) api.Errno {
	into, v := r.registers[s.Dst], r.second(s)
	at, e := into.reach(s.Off)
	switch {
	case e != api.OK:
		return e
	case into.kind == inTold:
		return api.ErrState
	case v.kind == none:
		return api.ErrNone
	case into.kind == inFrame:
		r.slots[at] = v
	case v.kind != number:
		return api.ErrArg
	default:
		r.cells[into.cell][at] = v.n
	}
	return api.OK
}

// call leaves what a call answers in register 0.
func (r *running) call(what int64) api.Errno {
	first := r.registers[1]
	if what == api.Find || what == api.Emit {
		if e := first.wantNumber(); e != api.OK {
			return e
		}
	}
	clear(r.registers[1 : lost+1])
	switch what {
	case api.Find:
		r.registers[0] = found(first.n)
	case api.Time:
		r.registers[0] = num(r.time)
	default:
		r.give(first.n)
		r.registers[0] = num(0)
	}
	return api.OK
}

// found is the beginning of a cell, or 0, if there is no such one.
func found(n int64) value {
	if n < 0 || n >= api.Cells {
		return num(0)
	}
	return value{kind: inCell, cell: int(n)}
}

// give gives a number out, while there is room for it.
func (r *running) give(n int64) {
	if len(r.out) < api.MaxOut {
		r.out = append(r.out, n)
	}
}
