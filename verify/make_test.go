package verify_test

import (
	"slices"
	"strconv"
	"testing"

	"gatehouse/api"
	"gatehouse/bound"
	"gatehouse/op"
)

// 4.2

// ofTwo are the names of the codes from Mov to Arsh, in their order.
func ofTwo() []string {
	return []string{"mov", "add", "sub", "mul", "div", "mod", "and", "or", "xor", "lsh", "rsh", "arsh"}
}

// bounded are steps behind which a register has a number within a bound; where it is outside, they lead on, so many steps behind them.
func bounded(r string, b bound.Bound, behind int) []string {
	return []string{
		"load " + r + " [r1+0]",
		"jslt " + r + " " + num(b.Low) + " " + strconv.Itoa(behind+1),
		"jsgt " + r + " " + num(b.High) + " " + strconv.Itoa(behind),
	}
}

// tells wants register r to have just a bound behind steps that begin with r2 in a and r3 in b; a number that it has is all that other ways may end with.
func tells(t *testing.T, a, b, want bound.Bound, inside int64, r string, steps ...string) {
	t.Helper()
	behind := append(slices.Clone(steps), "mov r0 "+r, "exit")
	second := append(bounded("r3", b, len(behind)), behind...)
	l := append(bounded("r2", a, len(second)), second...)
	ends(t, want, append(l, "mov r0 "+num(inside), "exit")...)
}

// some are bounds of every kind.
func some() []bound.Bound {
	return []bound.Bound{of(0, 0), of(1, 1), of(-1, -1), of(3, 9), of(-7, 4), of(-9, -2), of(0, most), of(least, -1), of(least, most), of(1<<40, 1<<41), of(most, most), of(least, least), of(63, 65)}
}

func TestWhatIsMadeOfTwoNumbers(t *testing.T) {
	for i, name := range ofTwo() {
		code := api.Mov + i
		for _, a := range some() {
			for _, b := range some() {
				want := bound.Does(code, a, b)
				tells(t, a, b, want, op.Does(code, a.Low, b.Low), "r2", name+" r2 r3")
				n := b.High
				want = bound.Does(code, a, bound.One(n))
				tells(t, a, b, want, op.Does(code, a.Low, n), "r2", name+" r2 "+num(n))
			}
			tells(t, a, a, bound.Does(code, a, a), op.Does(code, a.Low, a.Low), "r2", name+" r2 r2")
		}
	}
	for _, a := range some() {
		tells(t, a, a, bound.Does(api.Neg, a, a), op.Does(api.Neg, a.Low, 0), "r2", "neg r2")
	}
}

// TestSecondIsLeftAsItIs: what is made goes into the first one alone.
func TestSecondIsLeftAsItIs(t *testing.T) {
	for _, name := range ofTwo() {
		tells(t, of(2, 5), of(3, 9), of(3, 9), 3, "r3", name+" r2 r3")
	}
}

func TestWhatHasNothingIsNotAsked(t *testing.T) {
	for _, name := range ofTwo() {
		stopsLast(t, api.ErrNone, "mov r2 1", name+" r2 r3")
		stopsLast(t, api.ErrNone, name+" r2 r3")
		stopsLast(t, api.ErrNone, name+" r2 r2")
		if name == "mov" {
			passes(t, "mov r2 1")
			passes(t, "mov r2 r1")
			continue
		}
		stopsLast(t, api.ErrNone, name+" r2 1")
		stopsLast(t, api.ErrNone, "mov r3 1", name+" r2 r3")
	}
	stopsLast(t, api.ErrNone, "neg r2")
}

// TestNothingIsToldAheadOfKinds: of a place, or a MAYBE, and nothing, it is nothing that is told.
func TestNothingIsToldAheadOfKinds(t *testing.T) {
	for _, name := range ofTwo() {
		stopsLast(t, api.ErrNone, name+" r1 r9")
		stopsLast(t, api.ErrNone, "mov r1 0", "call find", name+" r0 r9")
		if name != "mov" {
			stopsLast(t, api.ErrNone, name+" r9 r1")
			stopsLast(t, api.ErrNone, "mov r1 0", "call find", name+" r9 r0")
		}
	}
}

// places are steps that put a place, or a MAYBE, into r6 and r7.
func places() [][]string {
	cell := []string{"mov r1 0", "call find", "jne r0 0 1", "exit", "mov r6 r0", "mov r7 r0"}
	return [][]string{
		{"mov r6 r1", "mov r7 r1"},
		{"mov r6 r10", "mov r7 r10"},
		cell,
		{"mov r1 0", "call find", "mov r6 r0", "mov r7 r0"},
	}
}

func TestOthersAreOfNoRightKind(t *testing.T) {
	for i, ahead := range places() {
		maybe := i == 3
		wrong := func(step string) {
			t.Helper()
			stopsLast(t, api.ErrArg, append(slices.Clone(ahead), "mov r8 1", step)...)
		}
		for _, name := range ofTwo()[1:] {
			wrong(name + " r6 r7")
			wrong(name + " r6 r6")
			if maybe || name != "add" && name != "sub" {
				wrong(name + " r6 1")
				wrong(name + " r6 0")
				wrong(name + " r6 r8")
			}
			if maybe || name != "add" {
				wrong(name + " r8 r6")
			}
		}
		wrong("neg r6")
	}
	stopsLast(t, api.ErrArg, "mov r2 r1", "add r2 r10")
	stopsLast(t, api.ErrArg, "mov r2 r10", "sub r2 r1")
}

// TestMovTakesWhatTheSecondHas: a number, each kind of place, a MAYBE; over nothing, over a place.
func TestMovTakesWhatTheSecondHas(t *testing.T) {
	tells(t, of(-4, 9), of(0, 0), of(-4, 9), 0, "r1", "mov r1 r2")
	passes(t, "add r1 3", "mov r2 r1", "load r3 [r2+4]")
	stopsLast(t, api.ErrRange, "add r1 3", "mov r2 r1", "load r3 [r2+5]")
	passes(t, "mov r1 r10", "store [r1-16] 1")
	stopsLast(t, api.ErrRange, "mov r1 r10", "store [r1-17] 1")
	passes(t, "mov r1 0", "call find", "mov r2 r0", "jeq r2 0 1", "store [r2+3] 1")
	passes(t, "mov r1 0", "call find", "jeq r0 0 2", "mov r2 r0", "store [r2+3] 1")
	stopsLast(t, api.ErrRange, "mov r1 0", "call find", "jeq r0 0 2", "mov r2 r0", "store [r2+4] 1")
}

// with are steps, and others behind them.
func with(ahead []string, steps ...string) []string {
	return append(slices.Clone(ahead), steps...)
}

// at is a place that is so far on from a register.
func at(r string, off int) string {
	if off < 0 {
		return "[" + r + strconv.Itoa(off) + "]"
	}
	return "[" + r + "+" + strconv.Itoa(off) + "]"
}

// spans wants loads by a register to be inside from one offset to another one, and beyond both not.
func spans(t *testing.T, first, last int, r string, steps ...string) {
	t.Helper()
	for off := first; off <= last; off++ {
		passes(t, with(steps, "load r5 "+at(r, off))...)
	}
	stopsLast(t, api.ErrRange, with(steps, "load r5 "+at(r, first-1))...)
	stopsLast(t, api.ErrRange, with(steps, "load r5 "+at(r, last+1))...)
}

// oneToThree are steps behind which r4 has a number from 1 to 3.
func oneToThree() []string {
	return []string{"load r4 [r1+0]", "and r4 2", "add r4 1"}
}

// full are steps behind which every slot has a number.
func full() (l []string) {
	for slot := range api.Slots {
		l = append(l, "store "+at("r10", -1-slot)+" 1")
	}
	return l
}

func TestPlaceInWhatIsToldAndNumber(t *testing.T) {
	spans(t, 0, 7, "r1")
	spans(t, -3, 4, "r1", "add r1 3")
	spans(t, 3, 10, "r1", "add r1 -3")
	spans(t, 3, 10, "r1", "sub r1 3")
	spans(t, -3, 4, "r1", "sub r1 -3")
	spans(t, -3, 4, "r2", "mov r2 3", "add r2 r1")
	spans(t, -3, 4, "r1", "mov r2 3", "add r1 r2")
	spans(t, -4, 3, "r1", "add r1 9", "sub r1 5")
	spans(t, -1, 4, "r1", with(oneToThree(), "add r1 r4")...)
	spans(t, -1, 4, "r4", with(oneToThree(), "add r4 r1")...)
	spans(t, 3, 8, "r1", with(oneToThree(), "sub r1 r4")...)
	spans(t, 2, 5, "r1", with(oneToThree(), "sub r1 r4", "add r1 r4")...)
}

func TestPlaceInTheFrameAndNumber(t *testing.T) {
	ahead := with(full(), oneToThree()...)
	spans(t, -16, -1, "r10", ahead...)
	spans(t, -11, 4, "r2", with(ahead, "mov r2 r10", "sub r2 5")...)
	spans(t, -17, -4, "r2", with(ahead, "mov r2 r10", "add r2 r4")...)
	spans(t, -17, -4, "r4", with(ahead, "add r4 r10")...)
	spans(t, -13, 0, "r2", with(ahead, "mov r2 r10", "sub r2 r4")...)
}

func TestPlaceInACellAndNumber(t *testing.T) {
	found := with(oneToThree(), "mov r6 r4", "mov r1 0", "call find", "jne r0 0 1", "exit")
	spans(t, 0, 3, "r0", found...)
	spans(t, -2, 1, "r0", with(found, "add r0 2")...)
	spans(t, 2, 5, "r0", with(found, "sub r0 2")...)
	spans(t, -1, 0, "r0", with(found, "add r0 r6")...)
	spans(t, -1, 0, "r6", with(found, "add r6 r0")...)
	spans(t, 3, 4, "r0", with(found, "sub r0 r6")...)
}

// TestPlaceThatComesToAll: it is told where the place is made, not where it is used.
func TestPlaceThatComesToAll(t *testing.T) {
	told := []string{"load r2 [r1+0]"}
	stopsLast(t, api.ErrRange, with(told, "add r1 r2")...)
	stopsLast(t, api.ErrRange, with(told, "add r2 r1")...)
	stopsLast(t, api.ErrRange, with(told, "sub r1 r2")...)
	stopsLast(t, api.ErrRange, with(told, "add r2 r10")...)
	stopsLast(t, api.ErrRange, "mov r1 0", "call find", "jne r0 0 1", "exit", "mov r6 r0", "call time", "add r6 r0")
	up := with(told, "rsh r2 1", "add r1 r2") // 0 to the greatest number
	passes(t, up...)
	stopsLast(t, api.ErrRange, with(up, "load r3 [r1+0]")...)
	passes(t, with(up, "add r1 -1")...)
	passes(t, with(up, "sub r1 1")...)
	stopsLast(t, api.ErrRange, with(up, "add r1 1")...)
	stopsLast(t, api.ErrRange, with(up, "sub r1 -1")...)
	stopsLast(t, api.ErrRange, with(up, "mov r3 1", "add r3 r1")...)
	low := []string{"add r1 " + num(least)}
	passes(t, low...)
	stopsLast(t, api.ErrRange, with(low, "add r1 -1")...)
	passes(t, with(low, "add r1 "+num(most))...)
	spans(t, 1, 8, "r1", with(low, "add r1 "+num(most))...)
	stopsLast(t, api.ErrRange, "sub r1 "+num(least))
}
