package verify_test

import (
	"errors"
	"math/rand"
	"slices"
	"testing"

	"gatehouse/api"
	"gatehouse/bound"
	"gatehouse/op"
	"gatehouse/verify"
)

// 4.7

// thing is what a register or a slot has when a program runs: a number, or a place, so far on (cell: of which one).
type thing struct {
	kind, cell int
	n          int64
}

// runner is a program that runs, by the words of chapter 5.
type runner struct {
	registers [api.Registers]thing
	slots     [api.Slots]thing
	told      [api.Words]int64
	cells     api.Table
	time      int64
}

// second is what the second one of a step's two has.
func (r *runner) second(s api.Step) thing {
	if s.Reg {
		return r.registers[s.Src]
	}
	return thing{kind: verify.Int, n: s.Num}
}

// reach is where a place leads to; false: it is none, or it is outside.
func reach(p thing, off int) (int64, bool) {
	n := p.n + int64(off)
	switch p.kind {
	case verify.Ctx:
		return n, 0 <= n && n < api.Words
	case verify.Frame:
		return n + api.Slots, -api.Slots <= n && n < 0
	case verify.Cell:
		return n, 0 <= n && n < api.Width
	}
	return 0, false
}

// change does a step from Mov to Neg; false: it goes wrong.
func (r *runner) change(s api.Step) bool {
	a, b := r.registers[s.Dst], r.second(s)
	switch {
	case b.kind == verify.None || a.kind == verify.None && s.Code != api.Mov:
		return false
	case s.Code == api.Mov:
		r.registers[s.Dst] = b
	case a.kind == verify.Int && b.kind == verify.Int:
		r.registers[s.Dst].n = op.Does(s.Code, a.n, b.n)
	case b.kind == verify.Int && (s.Code == api.Add || s.Code == api.Sub):
		r.registers[s.Dst].n = op.Does(s.Code, a.n, b.n)
	case a.kind == verify.Int && s.Code == api.Add:
		b.n += a.n
		r.registers[s.Dst] = b
	default:
		return false
	}
	return true
}

// load does a Load; false: it goes wrong.
func (r *runner) load(s api.Step) bool {
	p := r.registers[s.Src]
	n, ok := reach(p, s.Off)
	if !ok {
		return false
	}
	got := thing{kind: verify.Int}
	switch p.kind {
	case verify.Ctx:
		got.n = r.told[n]
	case verify.Cell:
		got.n = r.cells[p.cell][n]
	default:
		got = r.slots[n]
	}
	r.registers[s.Dst] = got
	return got.kind != verify.None
}

// store does a Store; false: it goes wrong.
func (r *runner) store(s api.Step) bool {
	p, v := r.registers[s.Dst], r.second(s)
	n, ok := reach(p, s.Off)
	switch {
	case !ok || p.kind == verify.Ctx || v.kind == verify.None || p.kind == verify.Cell && v.kind != verify.Int:
		return false
	case p.kind == verify.Cell:
		r.cells[p.cell][n] = v.n
	default:
		r.slots[n] = v
	}
	return true
}

// call does a Call; false: it goes wrong.
func (r *runner) call(what int64) bool {
	one := r.registers[1]
	if what != api.Time && one.kind != verify.Int {
		return false
	}
	clear(r.registers[1:6])
	r.registers[0] = thing{kind: verify.Int}
	switch {
	case what == api.Time:
		r.registers[0].n = r.time
	case what == api.Find && 0 <= one.n && one.n < api.Cells:
		r.registers[0] = thing{kind: verify.Cell, cell: int(one.n)}
	}
	return true
}

// ask says whether a step that asks leads on; false: it goes wrong.
func (r *runner) ask(s api.Step) (leads, ok bool) {
	a, b := r.registers[s.Dst], r.second(s)
	switch {
	case a.kind == verify.None || b.kind == verify.None:
		return false, false
	case a.kind == verify.Int && b.kind == verify.Int:
		return op.Is(s.Code, a.n, b.n), true
	}
	return s.Code == api.Jne, (s.Code == api.Jeq || s.Code == api.Jne) && !s.Reg && s.Num == 0
}

// run runs a program; the step at which it goes wrong, or -1, with its number.
func (r *runner) run(l []api.Step) (n int64, wrong int) {
	r.registers[1] = thing{kind: verify.Ctx}
	r.registers[api.Top] = thing{kind: verify.Frame}
	for i := 0; ; i++ {
		s, ok := l[i], true
		switch {
		case s.Code == api.Exit:
			if r.registers[0].kind != verify.Int {
				return 0, i
			}
			return r.registers[0].n, -1
		case s.Code == api.Jump:
			i += s.Off
		case op.Asks(s.Code):
			var leads bool
			if leads, ok = r.ask(s); leads {
				i += s.Off
			}
		case s.Code == api.Load:
			ok = r.load(s)
		case s.Code == api.Store:
			ok = r.store(s)
		case s.Code == api.Call:
			ok = r.call(s.Num)
		default:
			ok = r.change(s)
		}
		if !ok {
			return 0, i
		}
	}
}

// anyNumber is a small number, or one at which something may change.
func anyNumber(r *rand.Rand) int64 {
	switch r.Intn(6) {
	case 0:
		return []int64{least, least + 1, -1 << 32, -1 << 31, 1<<31 - 1, 1 << 31, 1 << 32, 1 << 62, most - 1, most}[r.Intn(10)]
	case 1:
		return int64(r.Uint64()) >> r.Intn(64)
	}
	return int64(r.Intn(24)) - 6
}

// anyStep is a step that leads on by at most so much.
func anyStep(r *rand.Rand, far int) api.Step {
	s := api.Step{Code: api.Mov + r.Intn(12), Dst: r.Intn(10), Num: anyNumber(r)}
	switch r.Intn(9) {
	case 0:
		return api.Step{Code: api.Neg, Dst: s.Dst}
	case 1, 2:
		s.Code, s.Off = api.Jeq+r.Intn(10), r.Intn(far+1)
		if r.Intn(4) == 0 {
			s.Num = 0
		}
	case 3:
		return api.Step{Code: api.Load, Dst: s.Dst, Src: r.Intn(api.Registers), Off: r.Intn(24) - 16}
	case 4:
		s.Code, s.Dst, s.Off = api.Store, r.Intn(api.Registers), r.Intn(24)-16
	case 5:
		return api.Step{Code: api.Call, Num: int64(1 + r.Intn(3))}
	case 6:
		s.Code = []int{api.Mov, api.Add, api.Sub, api.And}[r.Intn(4)]
	}
	if r.Intn(2) == 0 {
		s.Reg, s.Src, s.Num = true, r.Intn(api.Registers), 0
	}
	return s
}

// grown is a program that Verify lets go: step by step one with which it still does, and at the end what some register has.
func grown(r *rand.Rand, steps int) []api.Step {
	const far = 3
	l := []api.Step{{Code: api.Load, Dst: 2, Src: 1, Off: r.Intn(8)}, {Code: api.Load, Dst: 3, Src: 1, Off: r.Intn(8)}}
	end := func(l []api.Step, last api.Step) []api.Step {
		return append(append(slices.Clone(l), slices.Repeat([]api.Step{last}, far+1)...), api.Step{Code: api.Exit})
	}
	for range steps {
		more := append(slices.Clone(l), anyStep(r, far))
		if _, err := verify.Verify(end(more, api.Step{Code: api.Mov})); err == nil {
			l = more
		}
	}
	for _, i := range r.Perm(api.Registers) {
		whole := end(l, api.Step{Code: api.Mov, Reg: true, Src: i})
		if _, err := verify.Verify(whole); err == nil {
			return whole
		}
	}
	return end(l, api.Step{Code: api.Mov})
}

// anyRunner is one that is told anything.
func anyRunner(r *rand.Rand) *runner {
	run := &runner{time: anyNumber(r)}
	for i := range run.told {
		run.told[i] = anyNumber(r)
	}
	for i := range run.cells {
		for k := range run.cells[i] {
			run.cells[i][k] = anyNumber(r)
		}
	}
	return run
}

// TestItCannotGoWrong: what is let go runs without an error, whatever it is told, and ends within its bound.
func TestItCannotGoWrong(t *testing.T) {
	r := rand.New(rand.NewSource(1))
	for range 400 {
		l := grown(r, 80)
		b, err := verify.Verify(l)
		if err != nil {
			t.Fatalf("%v: %v", l, err)
		}
		for range 60 {
			run := anyRunner(r)
			told := *run
			if n, wrong := run.run(l); wrong >= 0 || !b.Has(n) {
				t.Fatalf("%v: told %v it ends with %d (%v), or goes wrong at %d", l, told, n, b, wrong)
			}
		}
	}
}

// P1, P3, P4

// TestAnySteps: whatever is given, there is an answer, of a form that it may have, and the list is as it was.
func TestAnySteps(t *testing.T) {
	r := rand.New(rand.NewSource(2))
	for range 20000 {
		var l []api.Step
		for range r.Intn(12) {
			s := anyStep(r, 3)
			if r.Intn(30) == 0 {
				s = api.Step{Code: r.Intn(40) - 5, Dst: r.Intn(14) - 2, Src: r.Intn(14) - 2, Reg: r.Intn(2) == 0, Off: int(anyNumber(r)), Num: anyNumber(r)}
			}
			l = append(l, s)
		}
		l = append(l, api.Step{Code: api.Exit}, api.Step{Code: api.Exit}, api.Step{Code: api.Exit}, api.Step{Code: api.Exit})
		before := slices.Clone(l)
		b, err := verify.Verify(l)
		again, errAgain := verify.Verify(l)
		if !slices.Equal(l, before) || b != again || (err == nil) != (errAgain == nil) {
			t.Fatalf("%v: it is changed, or answers otherwise the second time", before)
		}
		var at *api.At
		if err != nil && (b != bound.Bound{} || !errors.As(err, &at) || at.Place < 0 || at.Place >= len(l) || api.Tell(err) != at.Err) {
			t.Fatalf("%v: %v, %v", l, b, err)
		}
	}
}
