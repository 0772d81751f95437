package verify_test

import (
	"strconv"
	"testing"

	"gatehouse/api"
	"gatehouse/bound"
)

// 4.4

// calls are the names of what is called.
func calls() []string { return []string{"find", "time", "emit"} }

func TestFindAndEmitAskForANumber(t *testing.T) {
	for _, name := range []string{"find", "emit"} {
		call := "call " + name
		stopsLast(t, api.ErrArg, call)
		stopsLast(t, api.ErrArg, "mov r1 r10", call)
		stopsLast(t, api.ErrNone, "call time", call)
		stopsLast(t, api.ErrArg, "mov r1 0", "call find", "mov r1 r0", call)
		stopsLast(t, api.ErrArg, "mov r1 0", "call find", "jne r0 0 1", "exit", "mov r1 r0", call)
		passes(t, "mov r1 -9", call)
		passes(t, "load r1 [r1+0]", call)
	}
	stopsLast(t, api.ErrNone, "mov r1 0", "call find", "call find")
	stopsLast(t, api.ErrNone, "mov r1 0", "call emit", "call emit")
	// Time asks for nothing.
	passes(t, "call time", "call time")
	passes(t, "mov r1 3", "call time")
}

func TestWhatACallLeaves(t *testing.T) {
	for _, name := range calls() {
		ahead := []string{"mov r0 1"}
		for r := 1; r < api.Top; r++ {
			ahead = append(ahead, "mov r"+strconv.Itoa(r)+" "+strconv.Itoa(r))
		}
		ahead = append(ahead, "store [r10-1] 11", "call "+name)
		for r := 1; r <= 5; r++ {
			stopsLast(t, api.ErrNone, with(ahead, "mov r0 r"+strconv.Itoa(r))...)
		}
		for r := 6; r < api.Top; r++ {
			ends(t, of(int64(r), int64(r)), with(ahead, "mov r0 r"+strconv.Itoa(r), "exit")...)
		}
		ends(t, of(11, 11), with(ahead, "load r0 [r10-1]", "exit")...)
	}
}

func TestPlacesOutliveACallBehindRegisterFive(t *testing.T) {
	for _, name := range calls() {
		spans(t, 0, 7, "r6", "mov r6 r1", "mov r1 0", "call "+name)
		passes(t, "mov r9 r10", "mov r1 0", "call "+name, "store [r9-16] 1")
		passes(t, with(found(), "mov r6 r0", "mov r1 0", "call "+name, "store [r6+3] 1")...)
		passes(t, with(maybe(), "mov r6 r0", "mov r1 0", "call "+name, "jeq r6 0 1", "store [r6+3] 1")...)
	}
}

func TestWhatACallAnswers(t *testing.T) {
	ends(t, bound.All(), "call time", "exit")
	ends(t, of(0, 0), "mov r1 7", "call emit", "exit")
	verifies(t, "find", program(t, "mov r1 7", "call find", "exit"), bound.Bound{}, api.ErrArg, 2)
	ends(t, of(0, 9), "mov r1 7", "call find", "jeq r0 0 1", "mov r0 9", "exit")
	// Another Find is another MAYBE, whatever was known of the one before.
	stopsLast(t, api.ErrArg, with(found(), "mov r1 0", "call find", "store [r0+0] 1")...)
}

func TestExitAsksForANumber(t *testing.T) {
	wrong := func(e api.Errno, steps ...string) {
		t.Helper()
		l := with(steps, "exit")
		verifies(t, l, program(t, l...), bound.Bound{}, e, len(l)-1)
	}
	wrong(api.ErrNone)
	wrong(api.ErrNone, "mov r2 1")
	wrong(api.ErrArg, "mov r0 r1")
	wrong(api.ErrArg, "mov r0 r10")
	wrong(api.ErrArg, maybe()...)
	wrong(api.ErrArg, found()...)
	wrong(api.ErrArg, "add r1 5", "mov r0 r1")
	ends(t, of(5, 5), "mov r0 5", "exit")
}

// TestExitEndsTheWay: what stands behind it is not come to.
func TestExitEndsTheWay(t *testing.T) {
	ends(t, of(5, 5), "mov r0 5", "exit", "mov r0 6", "exit")
}

func TestJumpLeadsOn(t *testing.T) {
	ends(t, of(1, 1), "mov r0 1", "jump 0", "exit")
	ends(t, of(1, 1), "mov r0 1", "jump 1", "mov r0 2", "exit")
	ends(t, of(3, 3), "mov r0 1", "jump 2", "mov r0 2", "mov r0 4", "add r0 2", "exit")
	// It keeps what is known.
	spans(t, -3, 4, "r1", "add r1 3", "jump 1", "mov r1 0")
	stops(t, api.ErrNone, 3, "jump 2", "mov r2 1", "mov r2 1", "mov r0 r2")
}
