package desk_test

import (
	"strings"
	"testing"

	"gatehouse/api"
	"gatehouse/desk"
)

// talk wants each line of one session to be answered by the text that stands behind it.
func talk(t *testing.T, linesAndAnswers ...string) {
	t.Helper()
	var lines, answers []string
	for i := 0; i < len(linesAndAnswers); i += 2 {
		lines = append(lines, linesAndAnswers[i])
		answers = append(answers, linesAndAnswers[i+1])
	}
	got := strings.Split(desk.Session(strings.Join(lines, "\n")+"\n"), "\n")
	if len(got) != len(answers)+1 || got[len(answers)] != "" {
		t.Fatalf("%q: %d lines, and %q, not %d lines", lines, len(got)-1, got[len(got)-1], len(answers))
	}
	for i, answer := range answers {
		if got[i] != answer {
			t.Errorf("line %d, %q: %q, not %q", i, lines[i], got[i], answer)
		}
	}
}

// says wants a text to be answered just so.
func says(t *testing.T, text, want string) {
	t.Helper()
	if got := desk.Session(text); got != want {
		t.Errorf("%.60q: %.200q, not %.200q", text, got, want)
	}
}

// 7.1: texts and their lines

func TestLongText(t *testing.T) {
	says(t, strings.Repeat("x", api.MaxText), "error 3\n")
	says(t, strings.Repeat("x", api.MaxText+1), "error 4\n")
	says(t, strings.Repeat(" ", api.MaxText), "ok\n")
	says(t, strings.Repeat(" ", api.MaxText+1), "error 4\n")
	says(t, strings.Repeat("\n", api.MaxText), strings.Repeat("ok\n", api.MaxText))
	// Bytes are counted, also the line feed that is left out, and not signs.
	says(t, strings.Repeat("\n", api.MaxText+1), "error 4\n")
	says(t, "help"+strings.Repeat(" ", api.MaxText-4)+"\n", "error 4\n")
	says(t, strings.Repeat("\u00e4", api.MaxText/2), "error 3\n")
	says(t, strings.Repeat("\u00e4", api.MaxText/2+1), "error 4\n")
}

func TestLines(t *testing.T) {
	says(t, "", "ok\n")
	says(t, "\n", "ok\n")
	says(t, "\n\n", "ok\nok\n")
	says(t, "\n\n\n", "ok\nok\nok\n")
	says(t, "state 0", "0 0\n")
	says(t, "state 0\n", "0 0\n")
	says(t, "state 0\n\n", "0 0\nok\n")
	says(t, "\nstate 0", "ok\n0 0\n")
	says(t, "state 0\nstate 3", "0 0\n-1 0\n")
	says(t, "state 0\nstate 3\n", "0 0\n-1 0\n")
	says(t, "state 0\n\nstate 3\n", "0 0\nok\n-1 0\n")
	// A line ends at a line feed alone.
	says(t, "state 0\r\nstate 0\n", "error 3\n0 0\n")
	says(t, "state 0\rstate 0\n", "error 3\n")
	says(t, "state\n0\n", "error 3\nerror 3\n")
}

func TestBlanks(t *testing.T) {
	for _, line := range []string{"state 0", " state 0", "state 0 ", "   state    0   ", "state  0"} {
		talk(t, line, "0 0")
	}
	for _, line := range []string{"", " ", "     "} {
		talk(t, line, "ok")
	}
	talk(t, "  check   mov   r0  5 ;  exit  ", "ends 5 5")
	talk(t, " new  1  2   3 ", "new", "  help ", helpAnswer)
	for _, sign := range []string{"\t", "\r", "\v", "\f", "\x00", "\u0085", "\u00a0", "\u2003", "\u3000", "\xff", ",", ";"} {
		for _, line := range []string{sign, sign + "help", "help" + sign, "help " + sign, "state" + sign + "0", "state 0" + sign, "state " + sign + "0"} {
			talk(t, line, "error 3")
		}
		talk(t, "check mov r0"+sign+"5; exit", "error 3")
	}
}

// 7.1: what is told does not hang on other lines than those ahead

func TestErrorBetweenLines(t *testing.T) {
	talk(t,
		"attach 0 1 mov r0 5; exit", "1",
		"attach 0 1 mov r0; exit", "error 3",
		"event 0 1 2", "event",
		"nothing", "error 3",
		"event 3 1 2", "error 2",
		"", "ok",
		"detach 0 2", "error 7",
		"attach 0 1 exit", "error 8",
		"state 0", "1 0",
		"programs 0", "programs 1",
		"round x", "error 3",
		"round", "round 0 1 5 2",
		"round", "round ",
	)
}

func TestSessionsKnowNothingOfEachOther(t *testing.T) {
	text := "state 0\nprograms 1\nattach 1 0 call time; exit\nevent 1 0 0\nevent 1 0 0\nround\nnew 1 1 1\nattach 0 0 mov r0 1; exit\nevent 0 1 1\nevent 0 1 1\nround\nstate 0\n"
	want := "0 0\nprograms \n1\nevent\nevent\nround 1 0 0 2, 1 1 1 2\nnew\n1\nevent\nevent\nround 0 1 1 2\n1 -2\n"
	for range 3 {
		says(t, text, want)
		says(t, "state 0\nstate 1\nprograms 0\nprograms 1\nround\n", "0 0\n0 0\nprograms \nprograms \nround \n")
	}
}

func TestAtFirst(t *testing.T) {
	var lines []string
	for _, k := range []string{"0", "1", "2"} {
		lines = append(lines, "attach "+k+" 0 mov r0 1; exit", "1", "state "+k, "0 0")
		for range 20 {
			lines = append(lines, "event "+k+" 0 0", "event")
		}
		lines = append(lines, "event "+k+" 0 0", "error 12")
	}
	// An event spends 3 here: 4 of 10, 7 of 20, 10 of 30.
	var events []string
	for k, n := range []int{4, 7, 10} {
		for range n {
			events = append(events, string(rune('0'+k))+" 1 1 2")
		}
	}
	lines = append(lines, "round", "round "+strings.Join(events, ", "), "state 0", "16 -2", "state 1", "13 -1", "state 2", "10 0")
	talk(t, lines...)
}

// TestAnyText: whatever a text is, it is answered, by a line for each of its own.
func TestAnyText(t *testing.T) {
	parts := []string{"attach", "cells", "check", "detach", "does", "event", "help", "new", "programs", "replace", "round", "run", "state", "0", "1", "2", "3", "-1", "5", "99", "9223372036854775807", "-9223372036854775808", "mov r0 1; exit", "exit", "mov r0 [r1+0]", ";", "..", "\t", "\xff", "\u00e4", "\x00", "error", "ok", "\n", "\n", "\n", "\n"}
	d := die(7)
	for range 2000 {
		var text strings.Builder
		for range d.below(60) {
			text.WriteString(parts[d.below(len(parts))])
			text.WriteString(strings.Repeat(" ", d.below(3)))
		}
		s := text.String()
		want := strings.Count(strings.TrimSuffix(s, "\n"), "\n") + 1
		got := desk.Session(s)
		if strings.Count(got, "\n") != want || !strings.HasSuffix(got, "\n") {
			t.Fatalf("%q: %q, not %d lines", s, got, want)
		}
	}
}
