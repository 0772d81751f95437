package machine_test

import (
	"slices"
	"strconv"
	"testing"

	"gatehouse/api"
	"gatehouse/machine"
)

// 5.2, of Call and Exit; 5.1, of Jump

// calls are the names of what is called.
func calls() []string { return []string{"find", "time", "emit"} }

// runs runs a program with a table; it is to go well.
func runs(t *testing.T, l []api.Step, cells api.Table) machine.Ran {
	t.Helper()
	got, err := machine.Run(l, words(), cells, clock)
	if err != nil {
		t.Errorf("%v: %v", l, err)
	}
	return got
}

func TestFindAndEmitAskForANumber(t *testing.T) {
	for _, name := range []string{"find", "emit"} {
		call := "call " + name
		stopsLast(t, api.ErrArg, call)
		stopsLast(t, api.ErrArg, "mov r1 r10", call)
		stopsLast(t, api.ErrArg, with(found(0), "mov r1 r0", call)...)
		stopsLast(t, api.ErrNone, "call time", call)
		passes(t, with(found(9), "mov r1 r0", call)...)
		passes(t, "load r1 [r1+0]", call)
		stopsLast(t, api.ErrNone, "mov r1 0", call, call)
	}
	// Time asks for nothing.
	passes(t, "call time", "call time")
	passes(t, "mov r1 3", "call time")
}

func TestWhatACallLeaves(t *testing.T) {
	for _, name := range calls() {
		ahead := []string{"mov r0 1"}
		for r := 1; r < api.Top; r++ {
			ahead = append(ahead, "mov r"+strconv.Itoa(r)+" "+strconv.Itoa(r))
		}
		ahead = append(ahead, "store [r10-1] 11", "call "+name)
		for r := 1; r <= 5; r++ {
			stopsLast(t, api.ErrNone, with(ahead, "mov r0 r"+strconv.Itoa(r))...)
		}
		for r := 6; r < api.Top; r++ {
			ends(t, int64(r), with(ahead, "mov r0 r"+strconv.Itoa(r), "exit")...)
		}
		ends(t, 11, with(ahead, "load r0 [r10-1]", "exit")...)
		// Places, too, behind register 5.
		ends(t, 27, "mov r6 r1", "mov r1 0", "call "+name, "load r0 [r6+7]", "exit")
	}
}

func TestFind(t *testing.T) {
	for cell := range api.Cells {
		first := 100 * (1 + int64(cell))
		ends(t, first, with(found(cell), "load r0 [r0+0]", "exit")...)
		// What register 0 had does not matter.
		ends(t, first, with([]string{"mov r0 r10"}, with(found(cell), "load r0 [r0+0]", "exit")...)...)
	}
	for _, n := range []int64{least, -1 << 32, -1, api.Cells, api.Cells + 1, 1 << 32, most} {
		ends(t, 0, "mov r1 "+text(n), "call find", "exit")
		ends(t, 7, "mov r1 "+text(n), "call find", "add r0 7", "exit")
	}
}

func TestTime(t *testing.T) {
	l := program(t, "call time", "exit")
	for _, time := range edges() {
		got, err := machine.Run(l, words(), table(), time)
		if err != nil || got.Num != time {
			t.Errorf("at %d: %d, %v", time, got.Num, err)
		}
	}
	ends(t, clock, "call time", "mov r6 r0", "call time", "mov r0 r6", "exit")
}

func TestEmit(t *testing.T) {
	got := run(t, "mov r1 7", "call emit", "mov r1 "+text(least), "call emit", "mov r1 r0", "call emit", "mov r0 3", "exit")
	if want := []int64{7, least, 0}; got.Num != 3 || !slices.Equal(got.Out, want) {
		t.Errorf("it ends with %d, and gives out %v, not %v", got.Num, got.Out, want)
	}
	if got := run(t, "mov r0 3", "exit"); len(got.Out) != 0 {
		t.Errorf("it gives out %v", got.Out)
	}
	ends(t, 0, "mov r0 9", "mov r1 7", "call emit", "exit")
}

// TestEmitAsManyAsMayBe: the one behind the MaxOut-th is not given out, and nothing else is otherwise.
func TestEmitAsManyAsMayBe(t *testing.T) {
	for _, n := range []int{api.MaxOut - 1, api.MaxOut, api.MaxOut + 1, api.MaxOut + 9} {
		var steps []string
		var want []int64
		for i := range n {
			steps = append(steps, "mov r1 "+strconv.Itoa(i), "call emit")
			if i < api.MaxOut {
				want = append(want, int64(i))
			}
		}
		got := run(t, with(steps, "exit")...)
		if got.Num != 0 || !slices.Equal(got.Out, want) || got.Steps != 2*n+1 {
			t.Errorf("of %d: %d, %v, %d steps", n, got.Num, got.Out, got.Steps)
		}
		stopsLast(t, api.ErrNone, with(steps, "mov r0 r1")...)
	}
	full := slices.Repeat([]string{"mov r1 1", "call emit"}, api.MaxOut)
	stopsLast(t, api.ErrArg, with(full, "mov r1 r10", "call emit")...)
	stopsLast(t, api.ErrNone, with(full, "call emit")...)
}

// TestNothingIsGivenOutIfItGoesWrong: what there was of numbers and cells ahead of it is not told.
func TestNothingIsGivenOutIfItGoesWrong(t *testing.T) {
	stopsLast(t, api.ErrNone, "mov r1 7", "call emit", "mov r1 0", "call find", "store [r0+0] 1", "mov r0 r1")
}

func TestExitAsksForANumber(t *testing.T) {
	wrong := func(e api.Errno, steps ...string) {
		t.Helper()
		l := with(steps, "exit")
		goesWrong(t, l, program(t, l...), e, len(l)-1)
	}
	wrong(api.ErrNone)
	wrong(api.ErrNone, "mov r2 1")
	wrong(api.ErrArg, "mov r0 r1")
	wrong(api.ErrArg, "mov r0 r10")
	wrong(api.ErrArg, found(0)...)
	wrong(api.ErrArg, "add r1 5", "mov r0 r1")
	ends(t, 0, with(found(9), "exit")...)
	for _, n := range edges() {
		ends(t, n, "mov r0 "+text(n), "exit")
	}
	// An Exit on the way, as the last one.
	goesWrong(t, "on the way", program(t, "mov r0 r1", "exit", "mov r0 0", "exit"), api.ErrArg, 1)
}

func TestWhatExitTells(t *testing.T) {
	got := run(t, "mov r1 2", "call find", "store [r0+1] 9", "mov r1 5", "call emit", "mov r0 -1", "exit", "mov r0 6", "exit")
	cells := table()
	cells[2][1] = 9
	if got.Num != -1 || got.Cells != cells || !slices.Equal(got.Out, []int64{5}) || got.Steps != 7 {
		t.Errorf("%v", got)
	}
	if got := run(t, "mov r0 0", "exit"); got.Cells != table() {
		t.Errorf("a table that nothing was stored in is %v", got.Cells)
	}
}

func TestHowManySteps(t *testing.T) {
	for _, c := range []struct {
		want  int
		steps []string
	}{
		{2, []string{"mov r0 0", "exit"}},
		{2, []string{"mov r0 0", "exit", "mov r0 0", "exit"}},
		{3, []string{"mov r0 0", "jump 0", "exit"}},
		{3, []string{"mov r0 0", "jump 2", "mov r0 1", "mov r0 2", "exit"}},
		{3, []string{"mov r0 0", "jeq r0 0 1", "mov r0 1", "exit"}},
		{4, []string{"mov r0 0", "jne r0 0 1", "mov r0 1", "exit"}},
		{4, []string{"mov r0 0", "jeq r0 0 0", "mov r0 1", "exit"}},
		{6, []string{"store [r10-1] 1", "load r2 [r10-1]", "call time", "mov r0 0", "neg r0", "exit"}},
	} {
		if got := run(t, c.steps...); got.Steps != c.want {
			t.Errorf("%q: %d steps, not %d", c.steps, got.Steps, c.want)
		}
	}
	long := slices.Repeat([]api.Step{{Code: api.Mov}}, api.MaxCode)
	long[api.MaxCode-1] = api.Step{Code: api.Exit}
	if got := runs(t, long, table()); got.Steps != api.MaxCode {
		t.Errorf("of as many steps as may be %d were gone", got.Steps)
	}
}

func TestJumpLeadsOn(t *testing.T) {
	ends(t, 1, "mov r0 1", "jump 0", "exit")
	ends(t, 1, "mov r0 1", "jump 1", "mov r0 2", "exit")
	ends(t, 3, "mov r0 1", "jump 2", "mov r0 2", "mov r0 4", "add r0 2", "exit")
	goesWrong(t, "led", program(t, "jump 2", "mov r2 1", "mov r2 1", "mov r0 r2", "exit"), api.ErrNone, 3)
}
