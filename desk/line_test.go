package desk_test

import (
	"strconv"
	"strings"
	"testing"
)

const (
	// counts adds 1 to word 0 of cell 0, and ends with 0, in 8 steps.
	counts = "mov r1 0; call find; jeq r0 0 3; load r6 [r0+0]; add r6 1; store [r0+0] r6; mov r0 0; exit"
	// gives gives out the first three words that are told, and ends with 0, in 11 steps.
	gives = "mov r6 r1; load r1 [r6+0]; call emit; load r1 [r6+1]; call emit; load r1 [r6+2]; call emit; mov r1 r6; load r1 [r1+7]; call emit; exit"
	// strays runs to its end if word 0 is from 0 to 7, but may go wrong: Verify says ErrRange.
	strays = "load r2 [r1+0]; add r1 r2; load r2 [r1+0]; mov r0 3; exit"
)

// refused are programs that Read refuses, and with which error.
var refused = []string{
	"", "error 3",
	"nonsense", "error 3",
	"exit; nonsense", "error 3",
	"exit;", "error 3",
	";", "error 3",
	"mov r11 0; exit", "error 3",
	"mov r0 01; exit", "error 3",
	"mov r10 0; exit", "error 6",
	"call other; exit", "error 1",
	"jump 1; exit", "error 10",
	"mov r0 1", "error 8",
	strings.Repeat("exit; ", 200) + "exit", "error 4",
}

func TestNew(t *testing.T) {
	talk(t,
		"new 1 1 1", "new",
		"new 1000 1000 1000", "new",
		"new 0 1 1", "error 2", "new 1 0 1", "error 2", "new 1 1 0", "error 2",
		"new 1001 1 1", "error 2", "new 1 1001 1", "error 2", "new 1 1 1001", "error 2",
		"new -1 1 1", "error 2", "new 1 1 9223372036854775807", "error 2",
		"new 4294967297 1 1", "error 2",
	)
	// Another Desk has no programs, no events, and other sums, each hook its own.
	var lines []string
	for _, k := range []string{"0", "1", "2"} {
		lines = append(lines, "attach "+k+" 0 "+counts, "1", "event "+k+" 0 0", "event")
	}
	lines = append(lines, "new 1 2 3", "new")
	for _, k := range []string{"0", "1", "2"} {
		lines = append(lines, "programs "+k, "programs ", "state "+k, "0 0")
		for range 4 {
			lines = append(lines, "event "+k+" 0 0", "event")
		}
	}
	lines = append(lines, "round", "round 0 0 0 0, 1 0 0 0, 1 0 0 0, 2 0 0 0, 2 0 0 0, 2 0 0 0", "state 0", "3 0", "state 1", "2 0", "state 2", "1 0")
	talk(t, lines...)
}

func TestNewThatIsRefusedChangesNothing(t *testing.T) {
	talk(t,
		"new 5 6 7", "new",
		"attach 1 0 "+counts, "1",
		"event 1 0 0", "event",
		"event 1 0 0", "event",
		"round", "round 1 0 0 8",
		"new 0 1 1", "error 2",
		"new 1 1 1001", "error 2",
		"new 1 1", "error 3",
		"new 1 1 x", "error 3",
		"programs 1", "programs 1",
		"cells 1 1", "cells 1 0 0 0, 0 0 0 0, 0 0 0 0, 0 0 0 0",
		"state 1", "1 -3",
		"round", "round 1 0 0 8",
	)
}

func TestCheck(t *testing.T) {
	talk(t,
		"check mov r0 5; exit", "ends 5 5",
		"check mov r0 -5; exit", "ends -5 -5",
		"check load r0 [r1+0]; exit", "ends -9223372036854775808 9223372036854775807",
		"check load r0 [r1+0]; and r0 7; sub r0 9; exit", "ends -9 -2",
		"check load r2 [r1+0]; jge r2 8 2; add r1 r2; load r2 [r1+0]; mov r0 3; exit", "ends 3 3",
		"check "+strays, "error 2",
		"check exit", "error 8",
		"check mov r0 r1; exit", "error 1",
		"check store [r1+0] 0; mov r0 0; exit", "error 6",
		"check", "error 3",
	)
	for i := 0; i < len(refused); i += 2 {
		talk(t, "check "+refused[i], refused[i+1])
	}
}

func TestRun(t *testing.T) {
	talk(t,
		"run 0 mov r0 5; exit", "ran 5 2 out ",
		"run 9 load r0 [r1+0]; exit", "ran 9 2 out ",
		"run -9223372036854775808 load r0 [r1+0]; exit", "ran -9223372036854775808 2 out ",
		"run 9223372036854775807 load r0 [r1+0]; exit", "ran 9223372036854775807 2 out ",
		"run 0 call time; exit", "ran 7 2 out ",
		"run 5 mov r1 8; call emit; mov r1 -9; call emit; exit", "ran 0 5 out 8 -9",
		"run 5 "+gives, "ran 0 11 out 5 0 0 0",
		// It is not verified: it goes wrong, or not.
		"run 7 "+strays, "ran 3 5 out ",
		"run 8 "+strays, "error 2",
		"run 0 exit", "error 8",
		"run 0 mov r0 r1; exit", "error 1",
		"run 0 store [r1+0] 0; mov r0 0; exit", "error 6",
		"run 0", "error 3",
	)
	for i := 0; i < len(refused); i += 2 {
		talk(t, "run 0 "+refused[i], refused[i+1])
	}
	// Each has a table of noughts of its own, and no Desk's time.
	told := "mov r1 3; call find; mov r6 0; jeq r0 0 3; load r6 [r0+3]; store [r0+3] 9; load r7 [r0+3]; mov r0 r6; exit"
	talk(t, "run 0 "+told, "ran 0 9 out ", "event 0 0 0", "event", "round", "round 0 0 0 0", "run 0 "+told, "ran 0 9 out ", "run 0 call time; exit", "ran 7 2 out ")
}

func TestDoes(t *testing.T) {
	all := "is -9223372036854775808 9223372036854775807"
	talk(t,
		"does 1 1 2 3 4", "is 3 4",
		"does 2 1 2 2 3", "is 3 5",
		"does 3 1 2 2 3", "is -2 0",
		"does 5 10 20 2 5", "is 2 10",
		"does 13 1 2 0 0", "is -2 -1",
		"does 2 9223372036854775807 9223372036854775807 1 1", all,
		"does 1 0 0 -9223372036854775808 9223372036854775807", all,
		"does 14 1 1 1 1", all,
		"does 0 1 1 1 1", all,
		"does -1 1 1 1 1", all,
		"does 99 1 1 1 1", all,
		"does 4294967297 1 1 1 1", all,
		"does 9223372036854775807 1 1 1 1", all,
	)
	// Of bounds that have nothing nothing is promised, but that they are answered.
	for code := range 30 {
		for _, ends := range []string{"5 1 5 0", "0 -9223372036854775808 9 -1", "1 1 3 0", "-1 -5 64 -64"} {
			line := "does " + strconv.Itoa(code) + " " + ends
			if got := answer(line); !strings.HasPrefix(got, "is ") || len(strings.Fields(got)) != 3 {
				t.Errorf("%q: %q", line, got)
			}
		}
	}
}

func TestAttach(t *testing.T) {
	talk(t,
		"attach 0 5 mov r0 0; exit", "1",
		"attach 0 5 mov r0 0; exit", "2",
		"attach 0 4 mov r0 0; exit", "3",
		"attach 0 9223372036854775807 mov r0 0; exit", "4",
		"attach 0 -9223372036854775808 mov r0 0; exit", "5",
		"programs 0", "programs 5 3 1 2 4",
		"attach 2 0 mov r0 0; exit", "1",
		"programs 2", "programs 1",
		"programs 1", "programs ",
		"attach 0 0 "+strays, "error 2",
		"attach 0 0 exit", "error 8",
		"attach 0 0", "error 3",
		"attach 0 0 mov r0 0; exit", "6",
		"attach 0 0 mov r0 0; exit", "7",
		"attach 0 0 mov r0 0; exit", "8",
		"attach 0 0 mov r0 0; exit", "error 12",
		"attach 0 0 exit", "error 8",
		"attach 0 0 nonsense", "error 3",
	)
	for i := 0; i < len(refused); i += 2 {
		talk(t, "attach 0 0 "+refused[i], refused[i+1], "programs 0", "programs ")
		for _, k := range []string{"3", "-1", "4294967296", "-9223372036854775808"} {
			talk(t, "attach "+k+" 0 "+refused[i], "error 2")
		}
	}
	talk(t, "attach 3 0 exit", "error 2", "attach 3 0 mov r0 0; exit", "error 2")
}

func TestReplace(t *testing.T) {
	talk(t,
		"attach 1 0 "+counts, "1",
		"event 1 0 0", "event",
		"round", "round 1 0 0 8",
		"replace 1 1 mov r0 5; exit", "replace",
		"event 1 0 0", "event",
		"round", "round 1 1 5 2",
		"cells 1 1", "cells 1 0 0 0, 0 0 0 0, 0 0 0 0, 0 0 0 0",
		"replace 1 1 "+strays, "error 2",
		"replace 1 1 exit", "error 8",
		"replace 1 1", "error 3",
		// A number that is not there is told behind Read's errors, and ahead of Verify's.
		"replace 1 2 mov r0 0; exit", "error 7",
		"replace 1 2 exit", "error 7",
		"replace 1 2 "+strays, "error 7",
		"replace 1 2 nonsense", "error 3",
		"replace 1 2 jump 1; exit", "error 10",
		"replace 0 1 mov r0 0; exit", "error 7",
		"replace 1 4294967297 mov r0 0; exit", "error 7",
		"event 1 0 0", "event",
		"round", "round 1 1 5 2",
	)
	for i := 0; i < len(refused); i += 2 {
		talk(t, "attach 0 0 mov r0 5; exit", "1", "replace 0 1 "+refused[i], refused[i+1], "event 0 0 0", "event", "round", "round 0 1 5 2")
		for _, k := range []string{"3", "-1", "4294967296", "-9223372036854775808"} {
			talk(t, "replace "+k+" 1 "+refused[i], "error 2")
		}
	}
	talk(t, "replace 3 1 exit", "error 2", "replace 3 1 mov r0 0; exit", "error 2")
}

func TestDetach(t *testing.T) {
	talk(t,
		"detach 0 1", "error 7",
		"attach 0 0 mov r0 0; exit", "1",
		"attach 0 0 mov r0 0; exit", "2",
		"detach 0 0", "error 7",
		"detach 0 3", "error 7",
		"detach 1 1", "error 7",
		"detach 0 4294967297", "error 7",
		"programs 0", "programs 1 2",
		"detach 0 1", "detach",
		"programs 0", "programs 2",
		"detach 0 1", "error 7",
		"detach 0 2", "detach",
		"programs 0", "programs ",
		"detach 3 1", "error 2",
		"detach -1 1", "error 2",
	)
}

func TestPrograms(t *testing.T) {
	talk(t,
		"programs 0", "programs ",
		"programs 1", "programs ",
		"programs 2", "programs ",
		"programs 3", "error 2",
		"programs -1", "error 2",
		"programs 4294967296", "error 2",
		"attach 2 1 mov r0 0; exit", "1",
		"attach 2 0 mov r0 0; exit", "2",
		"attach 2 1 mov r0 0; exit", "3",
		"programs 2", "programs 2 1 3",
		"programs 0", "programs ",
	)
}

func TestCells(t *testing.T) {
	// In each cell in turn each word is another number.
	fills := func(cell string) string {
		return "mov r1 " + cell + "; call find; jeq r0 0 4; store [r0+0] " + cell + "1; store [r0+1] -" + cell + "2; store [r0+2] " + cell + "3; store [r0+3] " + cell + "4; "
	}
	talk(t,
		"cells 0 1", "error 7",
		"cells 3 1", "error 2",
		"cells -1 1", "error 2",
		"attach 0 0 "+fills("1")+fills("2")+fills("3")+"mov r0 0; exit", "1",
		"cells 0 1", "cells 0 0 0 0, 0 0 0 0, 0 0 0 0, 0 0 0 0",
		"event 0 0 0", "event",
		"round", "round 0 0 0 23",
		"cells 0 1", "cells 0 0 0 0, 11 -12 13 14, 21 -22 23 24, 31 -32 33 34",
		"cells 0 2", "error 7",
		"cells 0 0", "error 7",
		"cells 1 1", "error 7",
		"cells 0 4294967297", "error 7",
	)
}

func TestEventAndRound(t *testing.T) {
	talk(t,
		"round", "round ",
		"event 0 1 2", "event",
		"round", "round 0 0 0 0",
		"round", "round ",
		"attach 2 0 "+gives, "1",
		"attach 2 1 call time; exit", "2",
		"event 2 -9223372036854775808 9223372036854775807", "event",
		"event 2 3 -4", "event",
		"event 0 5 6", "event",
		// Hook by hook; the event of hook 0 is the second one of all.
		"round", "round 0 0 0 0, 2 2 2 13 out -9223372036854775808 9223372036854775807 0 0, 2 2 3 13 out 3 -4 0 0",
		"event 3 0 0", "error 2",
		"event -1 0 0", "error 2",
		"event 4294967296 0 0", "error 2",
		"round", "round ",
		"attach 1 0 mov r1 8; call emit; mov r0 -3; exit", "1",
		"event 1 0 0", "event",
		"event 0 0 0", "event",
		"event 1 0 0", "event",
		"round", "round 0 0 0 0, 1 1 -3 4 out 8, 1 1 -3 4 out 8",
	)
}

func TestEventWhereTwentyWait(t *testing.T) {
	var lines []string
	for range 20 {
		lines = append(lines, "event 0 0 0", "event")
	}
	talk(t, append(lines, "event 0 0 0", "error 12", "state 0", "20 0", "event 1 0 0", "event", "state 1", "1 0")...)
}

func TestState(t *testing.T) {
	talk(t,
		"state 0", "0 0", "state 1", "0 0", "state 2", "0 0",
		"state 3", "-1 0", "state -1", "-1 0", "state 4294967296", "-1 0", "state 9223372036854775807", "-1 0",
		"new 20 1 1", "new",
		"attach 0 0 "+counts, "1",
		"event 0 0 0", "event",
		"event 0 0 0", "event",
		"event 0 0 0", "event",
		"event 0 0 0", "event",
		"state 0", "4 0",
		"round", "round 0 0 0 8, 0 0 0 8, 0 0 0 8",
		"state 0", "1 -7",
		"round", "round 0 0 0 8",
		"state 0", "0 0",
	)
}

func TestHelp(t *testing.T) {
	talk(t, "help", helpAnswer, "help help", "error 3", "help x", "error 3")
}
