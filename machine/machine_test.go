package machine_test

import (
	"math"
	"reflect"
	"slices"
	"strconv"
	"strings"
	"testing"

	"gatehouse/api"
	"gatehouse/asm"
	"gatehouse/machine"
	"gatehouse/op"
	"gatehouse/plain"
)

const (
	least = math.MinInt64
	most  = math.MaxInt64
	clock = -77 // the time that is told
)

// words are what is told: 20 to 27.
func words() (told [api.Words]int64) {
	for i := range told {
		told[i] = 20 + int64(i)
	}
	return told
}

// table is the table that is handed in: 100 to 103, 200 to 203, and so on.
func table() (cells api.Table) {
	for i := range cells {
		for k := range cells[i] {
			cells[i][k] = 100*(1+int64(i)) + int64(k)
		}
	}
	return cells
}

// text is a number as a text.
func text(n int64) string { return strconv.FormatInt(n, 10) }

// at is a place as a text.
func at(register string, off int) string {
	sign := ""
	if off >= 0 {
		sign = "+"
	}
	return "[" + register + sign + strconv.Itoa(off) + "]"
}

// with are steps, and others behind them.
func with(ahead []string, steps ...string) []string {
	return append(slices.Clone(ahead), steps...)
}

// program is a program of steps with ; between.
func program(t *testing.T, steps ...string) []api.Step {
	t.Helper()
	l, err := asm.Read(strings.Join(steps, "; "))
	if err != nil {
		e, place := plain.Place(err)
		t.Fatalf("%q: it is no program: error %d at %d", steps, e, place)
	}
	return l
}

// run runs steps that are to go well.
func run(t *testing.T, steps ...string) machine.Ran {
	t.Helper()
	got, err := machine.Run(program(t, steps...), words(), table(), clock)
	if err != nil {
		e, place := plain.Place(err)
		t.Errorf("%q: error %d at %d", steps, e, place)
	}
	return got
}

// ends wants a program to end with a number.
func ends(t *testing.T, want int64, steps ...string) {
	t.Helper()
	if got := run(t, steps...); got.Num != want {
		t.Errorf("%q: it ends with %d, not %d", steps, got.Num, want)
	}
}

// passes wants steps, with an end behind them, to go well.
func passes(t *testing.T, steps ...string) {
	t.Helper()
	ends(t, 0, with(steps, "mov r0 0", "exit")...)
}

// goesWrong wants a program to end with an error at a place, and with nothing beside it.
func goesWrong(t *testing.T, what any, l []api.Step, e api.Errno, place int) {
	t.Helper()
	got, err := machine.Run(l, words(), table(), clock)
	if ge, gp := plain.Place(err); ge != e || gp != place || !reflect.DeepEqual(got, machine.Ran{}) {
		t.Errorf("%q: %v, error %d at %d, not error %d at %d", what, got, ge, gp, e, place)
	}
}

// stopsLast wants steps, with an end behind them, to go wrong at the last one of them.
func stopsLast(t *testing.T, e api.Errno, steps ...string) {
	t.Helper()
	goesWrong(t, steps, program(t, with(steps, "mov r0 0", "exit")...), e, len(steps)-1)
}

// 5.1

func TestRunHasChecksErrors(t *testing.T) {
	exit := api.Step{Code: api.Exit}
	long := slices.Repeat([]api.Step{{Code: api.Mov}}, api.MaxCode)
	for _, l := range [][]api.Step{
		nil,
		{},
		append(slices.Clone(long), exit),
		{{Code: api.Exit + 1}, exit},
		{{}, exit},
		{{Code: api.Mov, Dst: api.Registers}, exit},
		{{Code: api.Mov, Reg: true, Src: -1}, exit},
		{{Code: api.Mov, Dst: api.Top}, exit},
		{{Code: api.Load, Dst: api.Top, Src: 1}, exit},
		{{Code: api.Mov, Off: 1}, exit},
		{{Code: api.Call, Num: 4}, exit},
		{{Code: api.Jump, Off: 1}, exit},
		{{Code: api.Jeq, Off: -1}, exit},
		{{Code: api.Mov}},
		{exit, {Code: api.Mov}},
	} {
		e, place := plain.Place(op.Check(l))
		if e == api.OK {
			t.Fatalf("%v: it is a program", l)
		}
		goesWrong(t, l, l, e, place)
	}
}

// TestChecksErrorsAreToldAheadOfOthers: of a step that is never come to, and behind one that would go wrong.
func TestChecksErrorsAreToldAheadOfOthers(t *testing.T) {
	none := api.Step{Code: api.Mov, Reg: true, Src: 9}
	l := []api.Step{none, {Code: api.Exit + 1}, {Code: api.Exit}}
	goesWrong(t, l, l, api.ErrForm, 1)
	l = []api.Step{{Code: api.Mov}, {Code: api.Exit}, {Code: api.Mov, Dst: api.Top}, {Code: api.Exit}}
	goesWrong(t, l, l, api.ErrState, 2)
}

func TestWhatThereIsAtFirst(t *testing.T) {
	ends(t, 20, "load r0 [r1+0]", "exit")
	passes(t, "store [r10-1] 5")
	stopsLast(t, api.ErrRange, "store [r10+0] 5")
	for r := range api.Registers {
		if r != 1 && r != api.Top {
			stopsLast(t, api.ErrNone, "mov r0 r"+strconv.Itoa(r))
		}
	}
	for slot := -api.Slots; slot < 0; slot++ {
		stopsLast(t, api.ErrNone, "load r2 "+at("r10", slot))
	}
}

// TestEachRunIsNew: nothing of one run is left for the next one.
func TestEachRunIsNew(t *testing.T) {
	passes(t, "mov r7 1", "store [r10-3] 5", "mov r1 0", "call find", "store [r0+0] 9")
	stopsLast(t, api.ErrNone, "mov r0 r7")
	stopsLast(t, api.ErrNone, "load r0 [r10-3]")
	ends(t, 100, "mov r1 0", "call find", "load r0 [r0+0]", "exit")
	if got := run(t, "mov r1 4", "call emit", "exit"); !slices.Equal(got.Out, []int64{4}) {
		t.Errorf("it gives out %v, not 4", got.Out)
	}
}

// TestTheFirstThatIsMetIsTold: what would go wrong behind it, or on another way, is not.
func TestTheFirstThatIsMetIsTold(t *testing.T) {
	goesWrong(t, "two", program(t, "mov r0 0", "mov r0 r3", "load r0 [r1+9]", "exit"), api.ErrNone, 1)
	goesWrong(t, "led", program(t, "mov r2 0", "jeq r2 0 1", "mov r0 r3", "load r0 [r1+9]", "exit"), api.ErrRange, 3)
	ends(t, 6, "mov r0 6", "jump 2", "mov r0 r3", "load r0 [r1+9]", "exit")
	ends(t, 6, "mov r0 6", "jeq r0 6 1", "mov r0 r3", "exit", "mov r0 r4", "exit")
}

// TestItRunsThoughItMayGoWrong: programs that Verify would not let go, and that go well all the same.
func TestItRunsThoughItMayGoWrong(t *testing.T) {
	for _, c := range []struct {
		want  int64
		steps string
	}{
		// A place that may be anywhere, and isn't.
		{25, "load r2 [r1+0]; sub r2 15; add r1 r2; load r0 [r1+0]; exit"},
		// A cell that may be missing, and isn't.
		{302, "mov r1 2; call find; load r0 [r0+2]; exit"},
		// A 0 for a cell that isn't there is a number as any.
		{5, "mov r1 4; call find; add r0 5; exit"},
		// A way that would go wrong, and is not gone.
		{1, "load r2 [r1+7]; mov r0 1; jeq r2 27 1; load r0 [r9+0]; exit"},
		// One of several slots, of which another one has nothing.
		{8, "load r2 [r1+0]; and r2 3; sub r2 2; add r2 r10; store [r2+0] 8; load r0 [r10-2]; exit"},
	} {
		ends(t, c.want, strings.Split(c.steps, "; ")...)
	}
}

// TestTheDocumentsExamples: of its example 2 and 4.
func TestTheDocumentsExamples(t *testing.T) {
	const two = "load r0 [r1+2]; jeq r0 7 1; mov r0 -3; exit"
	const four = "load r2 [r1+0]; jge r2 8 2; add r1 r2; load r2 [r1+0]; mov r0 3; exit"
	for _, c := range []struct {
		program     string
		place, told int64
		want        int64
		steps       int
	}{
		{two, 2, 7, 7, 3},
		{two, 2, 8, -3, 4},
		{four, 0, 7, 3, 6},
		{four, 0, 8, 3, 4},
		{four, 0, -1, 3, 4},
	} {
		told := words()
		told[c.place] = c.told
		got, err := machine.Run(program(t, c.program), told, table(), clock)
		if err != nil || got.Num != c.want || got.Steps != c.steps {
			t.Errorf("%q, told %d: %v, %v", c.program, c.told, got, err)
		}
	}
}
