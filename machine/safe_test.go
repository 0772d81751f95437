package machine_test

import (
	"errors"
	"math/rand"
	"reflect"
	"slices"
	"testing"

	"gatehouse/api"
	"gatehouse/bound"
	"gatehouse/machine"
	"gatehouse/op"
	"gatehouse/verify"
)

// 4.7

// given is what a program is given.
type given struct {
	told  [api.Words]int64
	cells api.Table
	time  int64
}

// run runs a program with it.
func (g given) run(l []api.Step) (machine.Ran, error) {
	return machine.Run(l, g.told, g.cells, g.time)
}

// anyNumber is a small number, or one at which something may change.
func anyNumber(r *rand.Rand) int64 {
	switch r.Intn(6) {
	case 0:
		return edges()[r.Intn(len(edges()))]
	case 1:
		return int64(r.Uint64()) >> r.Intn(64)
	}
	return int64(r.Intn(24)) - 6
}

// anyGiven is anything that a program may be given.
func anyGiven(r *rand.Rand) given {
	g := given{time: anyNumber(r)}
	for i := range g.told {
		g.told[i] = anyNumber(r)
	}
	for i := range g.cells {
		for k := range g.cells[i] {
			g.cells[i][k] = anyNumber(r)
		}
	}
	return g
}

// anyStep is a step that leads on by at most so much.
func anyStep(r *rand.Rand, far int) api.Step {
	s := api.Step{Code: api.Mov + r.Intn(12), Dst: r.Intn(api.Top), Num: anyNumber(r)}
	switch r.Intn(10) {
	case 0:
		return api.Step{Code: api.Neg, Dst: s.Dst}
	case 1, 2:
		s.Code, s.Off = api.Jeq+r.Intn(10), r.Intn(far+1)
		if r.Intn(4) == 0 {
			s.Num = 0
		}
	case 3:
		return api.Step{Code: api.Load, Dst: s.Dst, Src: r.Intn(api.Registers), Off: r.Intn(24) - 16}
	case 4:
		s.Code, s.Dst, s.Off = api.Store, r.Intn(api.Registers), r.Intn(24)-16
	case 5:
		return api.Step{Code: api.Call, Num: int64(1 + r.Intn(3))}
	case 6:
		return api.Step{Code: api.Jump, Off: r.Intn(far + 1)}
	case 7:
		s.Code = []int{api.Mov, api.Add, api.Sub, api.And}[r.Intn(4)]
	}
	if r.Intn(2) == 0 {
		s.Reg, s.Src, s.Num = true, r.Intn(api.Registers), 0
	}
	return s
}

// far is how far steps of grown programs lead on at most.
const far = 3

// closed is a program of steps: wherever they lead to, a last one and an Exit are behind it.
func closed(l []api.Step, last api.Step) []api.Step {
	return append(append(slices.Clone(l), slices.Repeat([]api.Step{last}, far+1)...), api.Step{Code: api.Exit})
}

// idiom are steps that are seldom drawn one by one: a number is given out; a cell is found, and something done with it; a word of what is told tells which one is loaded.
func idiom(r *rand.Rand) []api.Step {
	switch r.Intn(3) {
	case 0:
		return []api.Step{
			{Code: api.Mov, Dst: 1, Num: anyNumber(r)},
			{Code: api.Call, Num: api.Emit},
		}
	case 1:
		return []api.Step{
			{Code: api.Mov, Dst: 1, Num: int64(r.Intn(6)) - 1},
			{Code: api.Call, Num: api.Find},
			{Code: api.Jeq, Off: 2},
			{Code: api.Store, Off: r.Intn(api.Width), Num: anyNumber(r)},
			{Code: api.Load, Dst: 6 + r.Intn(4), Off: r.Intn(api.Width)},
		}
	}
	return []api.Step{
		{Code: api.And, Dst: 2, Num: 7},
		{Code: api.Add, Dst: 2, Reg: true, Src: 1},
		{Code: api.Load, Dst: 2, Src: 2},
	}
}

// grown is a program that Verify lets go: step by step what it still lets go, and at the end what some register has.
func grown(r *rand.Rand, steps int) []api.Step {
	l := []api.Step{{Code: api.Load, Dst: 2, Src: 1, Off: r.Intn(8)}, {Code: api.Load, Dst: 3, Src: 1, Off: r.Intn(8)}}
	for range steps {
		more := append(slices.Clone(l), anyStep(r, far))
		if r.Intn(20) == 0 {
			more = append(slices.Clone(l), idiom(r)...)
		}
		if _, err := verify.Verify(closed(more, api.Step{Code: api.Mov})); err == nil {
			l = more
		}
	}
	for _, i := range r.Perm(api.Registers) {
		whole := closed(l, api.Step{Code: api.Mov, Reg: true, Src: i})
		if _, err := verify.Verify(whole); err == nil {
			return whole
		}
	}
	return closed(l, api.Step{Code: api.Mov})
}

// TestItCannotGoWrong: what is let go runs without an error, whatever it is given, in at most as many steps as it has, and ends within its bound.
func TestItCannotGoWrong(t *testing.T) {
	r := rand.New(rand.NewSource(5))
	var narrow, stored, gave int
	for range 400 {
		l := grown(r, 80)
		b, err := verify.Verify(l)
		if err != nil {
			t.Fatalf("%v: %v", l, err)
		}
		for range 60 {
			g := anyGiven(r)
			got, err := g.run(l)
			if err != nil || !b.Has(got.Num) || got.Steps < 1 || got.Steps > len(l) {
				t.Fatalf("%v, given %v: %v (%v), %v", l, g, got, b, err)
			}
			narrow += one(b != bound.All())
			stored += one(got.Cells != g.cells)
			gave += one(len(got.Out) > 0)
		}
	}
	// Runs that do nothing would hold, too; there are to be enough of others.
	if narrow < 1000 || stored < 1000 || gave < 1000 {
		t.Errorf("%d runs had a bound, %d changed the table, %d gave numbers out", narrow, stored, gave)
	}
}

// one counts what is so.
func one(so bool) int {
	if so {
		return 1
	}
	return 0
}

// P1 to P4

// anySteps is a list of steps, mostly a program.
func anySteps(r *rand.Rand) []api.Step {
	var l []api.Step
	for range r.Intn(12) {
		s := anyStep(r, far)
		if r.Intn(30) == 0 {
			s = api.Step{Code: r.Intn(40) - 5, Dst: r.Intn(14) - 2, Src: r.Intn(14) - 2, Reg: r.Intn(2) == 0, Off: int(anyNumber(r)), Num: anyNumber(r)}
		}
		l = append(l, s)
	}
	return append(l, slices.Repeat([]api.Step{{Code: api.Exit}}, far+1)...)
}

// TestAnySteps: whatever is given, there is one answer, of a form that it may have.
func TestAnySteps(t *testing.T) {
	r := rand.New(rand.NewSource(6))
	for range 30000 {
		l, g := anySteps(r), anyGiven(r)
		before := slices.Clone(l)
		got, err := g.run(l)
		again, errAgain := g.run(l)
		if !slices.Equal(l, before) || !reflect.DeepEqual(got, again) || !reflect.DeepEqual(err, errAgain) {
			t.Fatalf("%v: it is changed, or answers otherwise the second time", before)
		}
		if wrong := op.Check(l); wrong != nil && !reflect.DeepEqual(err, wrong) {
			t.Fatalf("%v: %v, not %v", l, err, wrong)
		}
		var at *api.At
		if err != nil && (!reflect.DeepEqual(got, machine.Ran{}) || !errors.As(err, &at) || at.Place < 0 || at.Place >= len(l) || api.Tell(err) != at.Err) {
			t.Fatalf("%v: %v, %v", l, got, err)
		}
		if err == nil && (got.Steps < 1 || got.Steps > len(l)) {
			t.Fatalf("%v: %d steps", l, got.Steps)
		}
	}
}

// TestOneWayIsToldAlike: of a program of one way alone, of numbers that are known, Verify and Run tell the same.
func TestOneWayIsToldAlike(t *testing.T) {
	r := rand.New(rand.NewSource(7))
	for range 30000 {
		l := anySteps(r)
		l = slices.DeleteFunc(l, func(s api.Step) bool {
			return op.Asks(s.Code) || s.Code == api.Load && s.Src != api.Top || s.Code == api.Call && s.Num != api.Emit
		})
		b, wrong := verify.Verify(l)
		got, err := anyGiven(r).run(l)
		if wrong == nil && (err != nil || !b.Has(got.Num)) {
			t.Fatalf("%v: %v, %v, where it was let go to %v", l, got, err, b)
		}
		// A number may be known less well than it is, and a place be told too wide for that; all else is known.
		if api.Tell(wrong) != api.ErrRange && !reflect.DeepEqual(err, wrong) {
			t.Fatalf("%v: %v at its run, and %v ahead of it", l, err, wrong)
		}
	}
}

func TestWhatComesOutIsFresh(t *testing.T) {
	l := program(t, "mov r1 7", "call emit", "mov r1 8", "call emit", "mov r0 0", "exit")
	// What stands behind the list's length stays, too.
	whole := append(slices.Clone(l), api.Step{Code: 99}, api.Step{Code: 98})
	before := slices.Clone(whole)
	first := runs(t, whole[:len(l)], table())
	second := runs(t, whole[:len(l)], table())
	first.Out[0], first.Out[1] = 1, 2
	_ = append(first.Out, 3)
	if !slices.Equal(second.Out, []int64{7, 8}) || !slices.Equal(whole, before) {
		t.Errorf("%v, %v", second.Out, whole)
	}
}
