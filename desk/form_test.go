package desk_test

import (
	"slices"
	"strings"
	"testing"

	"gatehouse/desk"
)

const helpAnswer = "attach cells check detach does event help new programs replace round run state"

// firsts are lines of each first word that are of the right form: how many numbers, and whether a program, stand behind it.
var firsts = []struct {
	line    string
	numbers int
	program bool
}{
	{"attach 0 0 mov r0 1; exit", 2, true},
	{"cells 0 1", 2, false},
	{"check mov r0 1; exit", 0, true},
	{"detach 0 1", 2, false},
	{"does 1 2 3 4 5", 5, false},
	{"event 0 1 2", 3, false},
	{"help", 0, false},
	{"new 1 2 3", 3, false},
	{"programs 0", 1, false},
	{"replace 0 1 mov r0 1; exit", 2, true},
	{"round", 0, false},
	{"run 0 mov r0 1; exit", 1, true},
	{"state 0", 1, false},
}

// answer is what a line is answered that is the only one of its session.
func answer(line string) string { return strings.TrimSuffix(desk.Session(line), "\n") }

func TestFirstWords(t *testing.T) {
	var words []string
	for _, f := range firsts {
		words = append(words, strings.Fields(f.line)[0])
	}
	if got := strings.Join(words, " "); got != helpAnswer {
		t.Fatalf("not all are here: %q", got)
	}
	// None of another form, none of another layer, none of an answer.
	for _, word := range []string{"x", "Help", "HELP", "hel", "helpp", "help;", "ok", "error", "ends", "ran", "is", "out", "exit", "mov", "..", "0", "-1", "Attach", "attach0", "checks", "\u00e4"} {
		talk(t, word, "error 3", word+" 0", "error 3", word+" 0 0 mov r0 1; exit", "error 3")
	}
}

func TestHowManyWords(t *testing.T) {
	for _, f := range firsts {
		words := strings.Fields(f.line)
		if got := answer(f.line); got == "error 3" {
			t.Errorf("%q: %q", f.line, got)
		}
		for n := range f.numbers {
			talk(t, strings.Join(words[:1+n], " "), "error 3")
		}
		if !f.program {
			talk(t, f.line+" 0", "error 3", f.line+" x", "error 3", f.line+" 0 0", "error 3", f.line+" mov r0 1; exit", "error 3")
		}
	}
	// A program is as many words as it likes, and told behind the numbers: with no hook 3 this is ErrForm of the words, and ErrRange if there are enough of them.
	talk(t, "attach 3", "error 3", "attach 3 0", "error 2", "replace 3", "error 3", "replace 3 1", "error 2")
	talk(t, "check "+strings.Repeat("mov r0 1; ", 199)+"exit", "ends 1 1", "check "+strings.Repeat("mov r0 1; ", 200)+"exit", "error 4")
}

// badNumbers are words that are no numbers, whatever else they are.
var badNumbers = []string{"x", "+", "-", "+0", "+1", "00", "01", "007", "-0", "-00", "-01", "--1", "1-", "-+1", "1.0", "1.", "1e0", "0x1", "0b1", "0o1", "1_0", "1,", "1;", "r1", "\u0661", "9223372036854775808", "-9223372036854775809", "18446744073709551616", "99999999999999999999999", "-99999999999999999999999"}

// goodNumbers are numbers, the least and the greatest among them.
var goodNumbers = []string{"0", "1", "-1", "10", "-10", "4294967296", "-4294967296", "9223372036854775807", "-9223372036854775808"}

func TestNumbersInEachPlace(t *testing.T) {
	for _, f := range firsts {
		for i := range f.numbers {
			with := func(number string) string {
				words := slices.Clone(strings.Fields(f.line))
				words[1+i] = number
				return strings.Join(words, " ")
			}
			for _, number := range badNumbers {
				talk(t, with(number), "error 3")
			}
			for _, number := range goodNumbers {
				if got := answer(with(number)); got == "error 3" {
					t.Errorf("%q: %q", with(number), got)
				}
			}
		}
	}
}

// TestNumbersAheadOfAll: a number that is none is ErrForm, whatever else is wrong with the line.
func TestNumbersAheadOfAll(t *testing.T) {
	talk(t,
		"run 0 jump 1; exit", "error 10",
		"run 01 jump 1; exit", "error 3",
		"run +1 nonsense", "error 3",
		"attach 0 0 jump 1; exit", "error 10",
		"attach 0 x jump 1; exit", "error 3",
		"attach x 0 jump 1; exit", "error 3",
		"attach 3 0 jump 1; exit", "error 2",
		"attach 3 -0 jump 1; exit", "error 3",
		"attach 3 -0 nonsense", "error 3",
		"replace 3 1 jump 1; exit", "error 2",
		"replace 3 +1 jump 1; exit", "error 3",
		"replace 0 01 nonsense", "error 3",
		"new 0 1 1", "error 2",
		"new 0 1 x", "error 3",
		"cells 3 1", "error 2",
		"cells 3 x", "error 3",
		"detach 3 1", "error 2",
		"detach 3 x", "error 3",
		"event 3 1 1", "error 2",
		"event 3 1 x", "error 3",
		"programs 3", "error 2",
	)
}
