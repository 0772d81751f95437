package verify_test

import (
	"math"
	"slices"
	"strconv"
	"strings"
	"testing"

	"gatehouse/api"
	"gatehouse/asm"
	"gatehouse/bound"
	"gatehouse/op"
	"gatehouse/plain"
	"gatehouse/verify"
)

const (
	least = math.MinInt64
	most  = math.MaxInt64
)

// of is a bound from one number to another one.
func of(low, high int64) bound.Bound { return bound.Bound{Low: low, High: high} }

// num is a number as a text.
func num(n int64) string { return strconv.FormatInt(n, 10) }

// program is a program of steps with ; between.
func program(t *testing.T, steps ...string) []api.Step {
	t.Helper()
	l, err := asm.Read(strings.Join(steps, "; "))
	if err != nil {
		e, place := plain.Place(err)
		t.Fatalf("%q: it is no program: error %d at %d", steps, e, place)
	}
	return l
}

// verifies holds what Verify answers against a bound, an error and its place (-1: none).
func verifies(t *testing.T, what any, l []api.Step, want bound.Bound, e api.Errno, place int) {
	t.Helper()
	got, err := verify.Verify(l)
	if ge, at := plain.Place(err); got != want || ge != e || at != place {
		t.Errorf("%q: %v, error %d at %d, not %v, error %d at %d", what, got, ge, at, want, e, place)
	}
}

// ends wants a program to be let go, and to end within a bound.
func ends(t *testing.T, want bound.Bound, steps ...string) {
	t.Helper()
	verifies(t, steps, program(t, steps...), want, api.OK, -1)
}

// passes wants steps, with an end behind them, to be let go.
func passes(t *testing.T, steps ...string) {
	t.Helper()
	ends(t, of(0, 0), append(slices.Clone(steps), "mov r0 0", "exit")...)
}

// stops wants steps, with an end behind them, to be refused at a place, with nothing beside the error.
func stops(t *testing.T, e api.Errno, place int, steps ...string) {
	t.Helper()
	steps = append(slices.Clone(steps), "mov r0 0", "exit")
	verifies(t, steps, program(t, steps...), bound.Bound{}, e, place)
}

// stopsLast wants steps to be refused at the last one of them.
func stopsLast(t *testing.T, e api.Errno, steps ...string) {
	t.Helper()
	stops(t, e, len(steps)-1, steps...)
}

// 4.1

func TestVerifyHasChecksErrors(t *testing.T) {
	exit := api.Step{Code: api.Exit}
	long := slices.Repeat([]api.Step{{Code: api.Mov}}, api.MaxCode)
	for _, l := range [][]api.Step{
		nil,
		{},
		append(slices.Clone(long), exit),
		{{Code: api.Exit + 1}, exit},
		{{}, exit},
		{{Code: api.Mov, Dst: api.Registers}, exit},
		{{Code: api.Mov, Reg: true, Src: -1}, exit},
		{{Code: api.Mov, Dst: api.Top}, exit},
		{{Code: api.Load, Dst: api.Top, Src: 1}, exit},
		{{Code: api.Mov, Off: 1}, exit},
		{{Code: api.Call, Num: 4}, exit},
		{{Code: api.Jump, Off: 1}, exit},
		{{Code: api.Jeq, Off: -1}, exit},
		{{Code: api.Mov}},
		{exit, {Code: api.Mov}},
	} {
		e, place := plain.Place(op.Check(l))
		if e == api.OK {
			t.Fatalf("%v: it is a program", l)
		}
		verifies(t, l, l, bound.Bound{}, e, place)
	}
	long[api.MaxCode-1] = exit
	verifies(t, "as many steps as may be", long, of(0, 0), api.OK, -1)
}

func TestChecksErrorsAreToldAheadOfOthers(t *testing.T) {
	l := []api.Step{{Code: api.Mov, Reg: true, Src: 9}, {Code: api.Exit + 1}, {Code: api.Exit}}
	verifies(t, l, l, bound.Bound{}, api.ErrForm, 1)
}

func TestWhatThereIsAtFirst(t *testing.T) {
	ends(t, bound.All(), "load r0 [r1+0]", "exit")
	passes(t, "load r2 [r1+7]")
	stops(t, api.ErrRange, 0, "load r2 [r1+8]")
	stops(t, api.ErrRange, 0, "load r2 [r1-1]")
	passes(t, "store [r10-1] 5")
	passes(t, "store [r10-16] 5")
	stops(t, api.ErrRange, 0, "store [r10+0] 5")
	stops(t, api.ErrRange, 0, "store [r10-17] 5")
	for r := range api.Registers {
		if r != 1 && r != api.Top {
			stops(t, api.ErrNone, 0, "mov r0 r"+strconv.Itoa(r))
		}
	}
	for slot := 1; slot <= api.Slots; slot++ {
		stops(t, api.ErrNone, 0, "load r0 [r10-"+strconv.Itoa(slot)+"]")
	}
}

func TestStepsThatNoWayComesToAreNotLookedAt(t *testing.T) {
	ends(t, of(7, 7), "mov r0 7", "jump 1", "mov r0 r9", "exit")
	ends(t, of(7, 7), "mov r0 7", "exit", "mov r0 r9", "exit")
}

// TestEachWayIsGoneWhollyAheadOfTheNext: the error of the first way is further on than that of the second one, and more steps away.
func TestEachWayIsGoneWhollyAheadOfTheNext(t *testing.T) {
	stops(t, api.ErrArg, 5,
		"load r2 [r1+0]",
		"jeq r2 3 2",
		"mov r3 0",
		"jump 1",
		"mov r3 r9",
		"neg r1",
	)
	// The way back is to the last one that was left, not to the first one.
	stops(t, api.ErrArg, 6,
		"load r2 [r1+0]",
		"jeq r2 3 3",
		"jeq r2 4 3",
		"mov r0 0",
		"exit",
		"mov r0 r9",
		"neg r1",
	)
}

// TestEveryWayIsGone: three forks, eight ways, each with a number of its own; what is wrong in one alone is found.
func TestEveryWayIsGone(t *testing.T) {
	ways := []string{"mov r3 0"}
	for i := range 3 {
		ways = append(ways, "load r2 [r1+"+strconv.Itoa(i)+"]", "jeq r2 0 1", "add r3 "+strconv.Itoa(1<<i))
	}
	for n := range 8 {
		stopsLast(t, api.ErrNone, append(slices.Clone(ways), "jne r3 "+strconv.Itoa(n)+" 1", "mov r4 r9")...)
	}
	passes(t, append(slices.Clone(ways), "jne r3 8 1", "mov r4 r9")...)
	ends(t, of(0, 7), append(slices.Clone(ways), "mov r0 r3", "exit")...)
}

// TestWhatOneWayKnowsAnotherDoesNot: what the first way puts into a register or a slot, the second one has not.
func TestWhatOneWayKnowsAnotherDoesNot(t *testing.T) {
	stops(t, api.ErrNone, 3, "load r2 [r1+0]", "jeq r2 3 1", "mov r3 1", "mov r4 r3")
	stops(t, api.ErrNone, 3, "load r2 [r1+0]", "jeq r2 3 1", "store [r10-1] 1", "load r4 [r10-1]")
	ends(t, of(1, 2), "load r2 [r1+0]", "store [r10-1] 2", "jeq r2 3 1", "store [r10-1] 1", "load r0 [r10-1]", "exit")
}

// fork is a program of nine forks, all of whose ways come together again: level by level so many steps more, each of which is come to by 2^level ways, and so many steps at the end.
func fork(extra [9]int, tail int) (l []string) {
	for _, n := range extra {
		l = append(l, slices.Repeat([]string{"mov r3 0"}, n)...)
		l = append(l, "load r2 [r1+0]", "jeq r2 3 0")
	}
	return append(append(l, slices.Repeat([]string{"mov r0 5"}, tail-1)...), "exit")
}

// TestLooks: 2 + 4 + .. + 512 = 1022 looks are at the forks, 512 at each step of the end, 2^level at each one more.
func TestLooks(t *testing.T) {
	if 1022+512*5+1*256+1*128+1*32+1*2 != api.MaxLooks {
		t.Fatal("the count is wrong")
	}
	just := [9]int{1: 1, 5: 1, 7: 1, 8: 1}
	ends(t, of(5, 5), fork(just, 5)...)
	one := just
	one[0]++
	l := fork(one, 5)
	verifies(t, "one look more", program(t, l...), bound.Bound{}, api.ErrLimit, len(l)-1)
	two := just
	two[1]++
	l = fork(two, 5)
	verifies(t, "two looks more", program(t, l...), bound.Bound{}, api.ErrLimit, len(l)-2)
	l = fork([9]int{1, 1, 1, 1, 1, 1, 1, 1, 1}, 150)
	// The way there: 27 steps to the end, 150 of the end; from then on each fork's second way, the last one's first.
	looks, place := 27+150, -1
	for way := 1; place < 0; way++ {
		level := 8
		for n := way; n%2 == 0; n /= 2 {
			level--
		}
		steps := (8-level)*3 + 150
		if looks+steps > api.MaxLooks {
			place = (level+1)*3 + api.MaxLooks - looks
		}
		looks += steps
	}
	verifies(t, "far too many looks", program(t, l...), bound.Bound{}, api.ErrLimit, place)
}

// TestLimitIsToldAheadOfWhatTheStepHas: the step that is wrong is the 4000th look, or the one behind it.
func TestLimitIsToldAheadOfWhatTheStepHas(t *testing.T) {
	wrong := func(extra [9]int) []string {
		inner := fork(extra, 5)
		first := []string{"load r4 [r1+0]", "jeq r4 0 " + strconv.Itoa(len(inner))}
		return append(append(first, inner...), "mov r0 r9", "exit")
	}
	// Two looks are ahead of the forks, 3998 (and 3997) at them.
	l := wrong([9]int{5: 1, 7: 1, 8: 1})
	verifies(t, "behind the last look", program(t, l...), bound.Bound{}, api.ErrLimit, len(l)-2)
	l = wrong([9]int{0: 1, 1: 1, 2: 1, 3: 1, 4: 1, 7: 1, 8: 1})
	verifies(t, "at the last look", program(t, l...), bound.Bound{}, api.ErrNone, len(l)-2)
}

// 4.6

func TestJoinOfAllExits(t *testing.T) {
	ends(t, of(-3, -3), "mov r0 -3", "exit")
	ends(t, of(-9, 4), "load r2 [r1+0]", "mov r0 4", "jeq r2 1 1", "exit", "mov r0 -9", "exit")
	ends(t, of(-9, 4), "load r2 [r1+0]", "mov r0 -9", "jeq r2 1 1", "exit", "mov r0 4", "exit")
	three := []string{"load r2 [r1+0]", "mov r0 20", "jeq r2 1 1", "exit", "load r2 [r1+1]", "mov r0 5", "jeq r2 1 1", "exit", "mov r0 30", "exit"}
	ends(t, of(5, 30), three...)
	three[5], three[8] = "mov r0 30", "mov r0 5"
	ends(t, of(5, 30), three...)
	ends(t, of(least, most), "load r2 [r1+0]", "mov r0 "+num(least), "jeq r2 1 1", "exit", "mov r0 "+num(most), "exit")
}

// TestWhatIsWrongHasNoBound: an error behind an Exit leaves nothing of what that told.
func TestWhatIsWrongHasNoBound(t *testing.T) {
	stops(t, api.ErrNone, 4, "load r2 [r1+0]", "mov r0 4", "jeq r2 1 1", "exit", "mov r0 r9")
}

// TestDocumentsExample: without the jge it is the add that is refused (4.2), the second step.
func TestDocumentsExample(t *testing.T) {
	ends(t, of(3, 3), "load r2 [r1+0]", "jge r2 8 2", "add r1 r2", "load r2 [r1+0]", "mov r0 3", "exit")
	stops(t, api.ErrRange, 1, "load r2 [r1+0]", "add r1 r2", "load r2 [r1+0]", "mov r0 3")
}
