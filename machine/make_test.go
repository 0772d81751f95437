package machine_test

import (
	"strconv"
	"testing"

	"gatehouse/api"
	"gatehouse/asm"
	"gatehouse/machine"
	"gatehouse/op"
)

// 5.1, of steps from Mov to Neg

// makers are the names of the codes from Add to Arsh.
func makers() []string {
	return []string{"add", "sub", "mul", "div", "mod", "and", "or", "xor", "lsh", "rsh", "arsh"}
}

// edges are numbers at which something changes.
func edges() []int64 {
	return []int64{least, least + 1, -1 << 32, -64, -2, -1, 0, 1, 2, 7, 63, 64, 65, 1 << 32, most - 1, most}
}

// places are a place of each kind: the steps that put it into r8.
func places() [][]string {
	return [][]string{
		{"mov r8 r1"},
		{"mov r8 r10"},
		{"mov r1 3", "call find", "mov r8 r0"},
	}
}

func TestNumbersAreMadeByDoes(t *testing.T) {
	for code := api.Mov; code <= api.Neg; code++ {
		for _, a := range edges() {
			for _, b := range edges() {
				second := api.Step{Code: code, Num: b}
				register := api.Step{Code: code, Reg: true, Src: 2}
				if code == api.Neg {
					second, register = api.Step{Code: code}, api.Step{Code: code}
				}
				for _, s := range []api.Step{second, register} {
					l := []api.Step{{Code: api.Mov, Num: a}, {Code: api.Mov, Dst: 2, Num: b}, s, {Code: api.Exit}}
					got, err := machine.Run(l, words(), table(), clock)
					if want := op.Does(code, a, b); err != nil || got.Num != want {
						text, _ := asm.Write(l)
						t.Errorf("%q: %d, %v, not %d", text, got.Num, err, want)
					}
				}
			}
		}
	}
}

func TestARegisterIsMadeOfItself(t *testing.T) {
	ends(t, 14, "mov r0 7", "add r0 r0", "exit")
	ends(t, 0, "mov r0 7", "sub r0 r0", "exit")
	ends(t, 7, "mov r0 7", "mov r0 r0", "exit")
}

func TestWhatHasNothingIsNotMadeOf(t *testing.T) {
	for _, name := range makers() {
		stopsLast(t, api.ErrNone, name+" r2 1")
		stopsLast(t, api.ErrNone, "mov r3 1", name+" r2 r3")
		stopsLast(t, api.ErrNone, "mov r2 1", name+" r2 r3")
		stopsLast(t, api.ErrNone, name+" r2 r3")
		// It is told ahead of what is of another kind.
		stopsLast(t, api.ErrNone, name+" r1 r3")
		stopsLast(t, api.ErrNone, name+" r3 r1")
	}
	stopsLast(t, api.ErrNone, "neg r2")
	stopsLast(t, api.ErrNone, "mov r2 r3")
	stopsLast(t, api.ErrNone, "mov r1 r3")
	stopsLast(t, api.ErrNone, "mov r2 r2")
	// Mov asks the second alone.
	passes(t, "mov r2 1")
	passes(t, "mov r2 r1")
}

func TestMovTakesWhatThereIs(t *testing.T) {
	for r := range api.Top {
		name := "r" + strconv.Itoa(r)
		ends(t, 5, "mov "+name+" 5", "mov r0 "+name, "exit")
		ends(t, 27, "mov "+name+" r1", "load r0 ["+name+"+7]", "exit")
	}
	ends(t, 6, "store [r10-4] 6", "mov r3 r10", "load r0 [r3-4]", "exit")
	ends(t, 203, "mov r1 1", "call find", "mov r3 r0", "load r0 [r3+3]", "exit")
}

func TestPlacesAndNumbersAreAdded(t *testing.T) {
	ends(t, 23, "add r1 3", "load r0 [r1+0]", "exit")
	ends(t, 23, "mov r2 3", "add r1 r2", "load r0 [r1+0]", "exit")
	ends(t, 23, "mov r2 3", "add r2 r1", "load r0 [r2+0]", "exit")
	ends(t, 3, "mov r2 3", "add r1 r2", "mov r0 r2", "exit")
	ends(t, 20, "mov r2 3", "add r2 r1", "load r0 [r1+0]", "exit")
	ends(t, 22, "add r1 5", "sub r1 3", "load r0 [r1+0]", "exit")
	ends(t, 22, "add r1 5", "mov r2 3", "sub r1 r2", "load r0 [r1+0]", "exit")
	ends(t, 22, "add r1 5", "add r1 -3", "load r0 [r1+0]", "exit")
	ends(t, 9, "store [r10-5] 9", "mov r2 -5", "add r2 r10", "load r0 [r2+0]", "exit")
	ends(t, 9, "store [r10-5] 9", "mov r2 r10", "sub r2 5", "load r0 [r2+0]", "exit")
	ends(t, 403, "mov r1 3", "call find", "add r0 3", "load r0 [r0+0]", "exit")
	ends(t, 403, "mov r1 3", "call find", "mov r2 3", "add r2 r0", "load r0 [r2+0]", "exit")
	ends(t, 301, "mov r1 2", "call find", "add r0 3", "sub r0 2", "load r0 [r0+0]", "exit")
}

// TestPlacesGoOnWithSixtyFourBits: beyond the greatest number, and back, and nothing is told on the way.
func TestPlacesGoOnWithSixtyFourBits(t *testing.T) {
	big, small := text(most), text(least)
	ends(t, 22, "add r1 "+big, "add r1 "+big, "add r1 4", "load r0 [r1+0]", "exit")
	ends(t, 22, "sub r1 "+small, "sub r1 "+small, "add r1 2", "load r0 [r1+0]", "exit")
	ends(t, 22, "sub r1 "+small, "add r1 "+small, "add r1 2", "load r0 [r1+0]", "exit")
	ends(t, 26, "add r1 "+big, "load r0 [r1-"+text(most-6)+"]", "exit")
	// A wide place is outside, where it is asked, and not ahead of that.
	passes(t, "add r1 "+big)
	passes(t, "load r2 [r1+0]", "lsh r2 63", "mov r3 "+big, "add r3 r1")
	stopsLast(t, api.ErrRange, "add r1 "+big, "load r2 [r1+0]")
	stopsLast(t, api.ErrRange, "add r1 "+small, "load r2 [r1+0]")
	// The frame's places are below 0.
	ends(t, 5, "store [r10-1] 5", "mov r2 "+big, "add r2 r10", "add r2 "+big, "add r2 1", "load r0 [r2+0]", "exit")
	ends(t, 400, "mov r1 3", "call find", "sub r0 "+small, "add r0 "+small, "load r0 [r0+0]", "exit")
}

func TestOfPlacesNothingElseIsMade(t *testing.T) {
	for _, ahead := range places() {
		for _, name := range makers() {
			if name != "add" && name != "sub" {
				stopsLast(t, api.ErrArg, with(ahead, name+" r8 0")...)
				stopsLast(t, api.ErrArg, with(ahead, "mov r2 0", name+" r8 r2")...)
			}
			if name != "add" {
				stopsLast(t, api.ErrArg, with(ahead, "mov r2 0", name+" r2 r8")...)
			}
			stopsLast(t, api.ErrArg, with(ahead, name+" r8 r8")...)
			stopsLast(t, api.ErrArg, with(ahead, name+" r8 r10")...)
		}
		stopsLast(t, api.ErrArg, with(ahead, "neg r8")...)
	}
}
