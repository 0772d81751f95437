package verify_test

import (
	"testing"

	"gatehouse/api"
	"gatehouse/bound"
)

// 4.5

// asks are the names of the codes that ask, in their order.
func asks() []string {
	return []string{"jeq", "jne", "jgt", "jge", "jlt", "jle", "jsgt", "jsge", "jslt", "jsle"}
}

// left wants a register to have just a bound on the way to the next step (led: to where it leads) of a step that asks r2, in a, and r3, in b.
func left(t *testing.T, ask string, led bool, a, b, want bound.Bound, r string) {
	t.Helper()
	other := []string{"mov r0 " + num(want.Low), "exit"}
	observed := []string{"mov r0 " + r, "exit"}
	steps := []string{ask + " 2"}
	if led {
		steps = with(with(steps, other...), observed...)
	} else {
		steps = with(with(steps, observed...), other...)
	}
	second := with(bounded("r3", b, len(steps)), steps...)
	first := with(bounded("r2", a, len(second)), second...)
	ends(t, want, with(first, other...)...)
}

// never wants the way to the next step (led: to where it leads) of a step that asks r2, in a, and r3, in b, not to be gone.
func never(t *testing.T, ask string, led bool, a, b bound.Bound) {
	t.Helper()
	good, wrong := "mov r0 0", "mov r0 r9"
	if led {
		good, wrong = wrong, good
	}
	steps := []string{ask + " 2", wrong, "exit", good, "exit"}
	second := with(bounded("r3", b, len(steps)), steps...)
	passes(t, with(bounded("r2", a, len(second)), second...)...)
}

func TestNumbersAreNarrowed(t *testing.T) {
	for i, name := range asks() {
		code := api.Jeq + i
		for _, a := range some() {
			for _, b := range some() {
				for _, led := range []bool{false, true} {
					c := code
					if !led {
						c = bound.Opposite(code)
					}
					narrowed(t, name, c, led, a, b)
					narrowedByNumber(t, name, c, led, a, b.High)
				}
			}
		}
	}
}

// narrowed holds one way of a step that asks two registers against Narrow.
func narrowed(t *testing.T, name string, code int, led bool, a, b bound.Bound) {
	t.Helper()
	x, y, ok := bound.Narrow(code, a, b)
	if !ok {
		never(t, name+" r2 r3", led, a, b)
		return
	}
	left(t, name+" r2 r3", led, a, b, x, "r2")
	left(t, name+" r2 r3", led, a, b, y, "r3")
}

// narrowedByNumber holds one way of a step that asks a register against a number against Narrow.
func narrowedByNumber(t *testing.T, name string, code int, led bool, a bound.Bound, n int64) {
	t.Helper()
	x, _, ok := bound.Narrow(code, a, bound.One(n))
	ask := name + " r2 " + num(n)
	if !ok {
		never(t, ask, led, a, bound.One(1))
		return
	}
	left(t, ask, led, a, bound.One(1), x, "r2")
	left(t, ask, led, a, of(-5, 5), of(-5, 5), "r3")
}

// TestAskedAgainstItself: the register stays as it was, on the ways that there may be.
func TestAskedAgainstItself(t *testing.T) {
	for i, name := range asks() {
		code := api.Jeq + i
		for _, a := range some() {
			_, _, next := bound.Narrow(bound.Opposite(code), a, a)
			_, _, led := bound.Narrow(code, a, a)
			against(t, name+" r2 r2", false, next, a)
			against(t, name+" r2 r2", true, led, a)
		}
	}
	left(t, "jslt r2 r2", true, of(0, 9), of(0, 0), of(0, 9), "r2")
	left(t, "jslt r2 r2", false, of(0, 9), of(0, 0), of(0, 9), "r2")
	never(t, "jeq r2 r2", false, of(4, 4), of(0, 0))
	never(t, "jne r2 r2", true, of(4, 4), of(0, 0))
}

// against wants a register that is asked against itself to be as it was, if there is a way.
func against(t *testing.T, ask string, led, ok bool, a bound.Bound) {
	t.Helper()
	if ok {
		left(t, ask, led, a, of(1, 1), a, "r2")
		return
	}
	never(t, ask, led, a, of(1, 1))
}

// TestNextStepIsFirst: of what is wrong on both ways, that of the way to the next step is told.
func TestNextStepIsFirst(t *testing.T) {
	for _, name := range asks() {
		stops(t, api.ErrArg, 3, "load r2 [r1+0]", "load r3 [r1+1]", name+" r2 r3 1", "neg r1", "mov r4 r9")
		stops(t, api.ErrArg, 2, "load r2 [r1+0]", name+" r2 7 1", "neg r1", "mov r4 r9")
	}
}

func TestNothingIsNotAskedWhetherItIs(t *testing.T) {
	for _, name := range asks() {
		stopsLast(t, api.ErrNone, name+" r2 0 0")
		stopsLast(t, api.ErrNone, name+" r2 1 0")
		stopsLast(t, api.ErrNone, name+" r2 r2 0")
		stopsLast(t, api.ErrNone, name+" r2 r1 0")
		stopsLast(t, api.ErrNone, name+" r1 r2 0")
		stopsLast(t, api.ErrNone, "mov r3 0", name+" r3 r2 0")
		stopsLast(t, api.ErrNone, "mov r3 0", name+" r2 r3 0")
		stopsLast(t, api.ErrNone, with(maybe(), name+" r0 r2 0")...)
		stopsLast(t, api.ErrNone, with(maybe(), name+" r2 r0 0")...)
	}
}

// TestPlacesAreAskedAgainstNoughtAlone: a place, or a MAYBE, in r6 and r7, and a number 0 in r8.
func TestPlacesAreAskedAgainstNoughtAlone(t *testing.T) {
	for _, ahead := range places() {
		ahead = with(ahead, "mov r8 0")
		for _, name := range asks() {
			for _, two := range []string{"r6 r6", "r6 r7", "r6 r8", "r8 r6", "r6 1", "r6 -1", "r6 " + num(most)} {
				stopsLast(t, api.ErrArg, with(ahead, name+" "+two+" 0")...)
			}
			if name != "jeq" && name != "jne" {
				stopsLast(t, api.ErrArg, with(ahead, name+" r6 0 0")...)
			}
		}
		passes(t, with(ahead, "jeq r6 0 0")...)
		passes(t, with(ahead, "jne r6 0 0")...)
	}
	stopsLast(t, api.ErrArg, "jeq r1 r10 0")
}

// TestPlaceIsNeverNought: there is one way alone, and the place is as it was.
func TestPlaceIsNeverNought(t *testing.T) {
	for i, ahead := range places()[:3] {
		passes(t, with(ahead, "jeq r6 0 1", "jump 1", "mov r2 r9")...)
		stopsLast(t, api.ErrNone, with(ahead, "jeq r6 0 1", "mov r2 r9")...)
		passes(t, with(ahead, "jne r6 0 1", "mov r2 r9")...)
		stopsLast(t, api.ErrNone, with(ahead, "jne r6 0 1", "jump 1", "mov r2 r9")...)
		if i == 1 {
			ahead = with(full(), ahead...)
		}
		ahead = with(ahead, "add r6 1")
		for _, ask := range []string{"jeq r6 0 0", "jne r6 0 0"} {
			first, last := [3]int{-1, -17, -1}[i], [3]int{6, -2, 2}[i]
			spans(t, first, last, "r6", with(ahead, ask)...)
		}
	}
	// One way is one look: with two at each step there would be too many.
	var l []string
	for range 95 {
		l = append(l, "jeq r1 0 0", "jne r10 0 0")
	}
	passes(t, l...)
}

// way0 are steps that ask a MAYBE, with something on the way of 0, and on the other one.
func way0(name, zero, place string) []string {
	if name == "jeq" {
		return with(maybe(), "jeq r0 0 2", place, "jump 1", zero)
	}
	return with(maybe(), "jne r0 0 2", zero, "jump 1", place)
}

func TestMaybeIsNoughtOrACell(t *testing.T) {
	for _, name := range []string{"jeq", "jne"} {
		passes(t, way0(name, "mul r0 1", "store [r0+3] 1")...)
		passes(t, way0(name, "mul r0 1", "store [r0+0] 1")...)
		ends(t, of(0, 0), with(way0(name, "mul r0 1", "mov r0 0"), "exit")...)
		ends(t, of(-1, 1), with(way0(name, "add r0 1", "mov r0 -1"), "exit")...)
	}
	// The way of 0 has no place, and the other one has no number.
	stops(t, api.ErrArg, 5, way0("jeq", "store [r0+3] 1", "store [r0+3] 1")...)
	stops(t, api.ErrArg, 3, way0("jne", "store [r0+3] 1", "store [r0+3] 1")...)
	stops(t, api.ErrArg, 3, way0("jeq", "neg r0", "neg r0")...)
	stops(t, api.ErrArg, 5, way0("jne", "neg r0", "neg r0")...)
	for _, beyond := range []string{"load r2 [r0+4]", "load r2 [r0-1]"} {
		stops(t, api.ErrRange, 3, way0("jeq", "neg r0", beyond)...)
		stops(t, api.ErrRange, 5, way0("jne", "neg r0", beyond)...)
	}
}

// TestWayOfNoughtIsFirst: of what is wrong on both ways that of 0 is told, wherever it stands.
func TestWayOfNoughtIsFirst(t *testing.T) {
	stops(t, api.ErrNone, 5, way0("jeq", "mov r2 r9", "neg r0")...)
	stops(t, api.ErrNone, 3, way0("jne", "mov r2 r9", "neg r0")...)
}

// TestCopiesOfAMaybeAreNotAsked: what was copied ahead of being asked is a MAYBE still, on both ways.
func TestCopiesOfAMaybeAreNotAsked(t *testing.T) {
	stopsLast(t, api.ErrArg, with(maybe(), "mov r6 r0", "jeq r0 0 1", "store [r6+0] 1")...)
	stopsLast(t, api.ErrArg, with(maybe(), "mov r6 r0", "jne r0 0 1", "neg r6")...)
	stopsLast(t, api.ErrArg, with(maybe(), "store [r10-1] r0", "jeq r0 0 2", "load r6 [r10-1]", "store [r6+0] 1")...)
	stopsLast(t, api.ErrArg, with(maybe(), "mov r6 r0", "jeq r6 0 1", "store [r0+0] 1")...)
	passes(t, with(maybe(), "mov r6 r0", "jeq r6 0 1", "store [r6+0] 1")...)
	passes(t, with(maybe(), "mov r6 r0", "jne r6 0 1", "neg r6")...)
	stopsLast(t, api.ErrArg, with(maybe(), "mov r6 r0", "jne r6 0 1", "neg r0")...)
	passes(t, with(maybe(), "mov r6 r0", "jeq r0 0 3", "store [r0+0] 1", "jeq r6 0 1", "store [r6+0] 1")...)
}

// TestCopiesOfANumberAreNotNarrowed: just the registers that are asked are.
func TestCopiesOfANumberAreNotNarrowed(t *testing.T) {
	passes(t, "load r2 [r1+0]", "mov r3 r2", "jge r2 8 2", "add r1 r2", "load r4 [r1+0]")
	stops(t, api.ErrRange, 3, "load r2 [r1+0]", "mov r3 r2", "jge r2 8 2", "add r1 r3", "load r4 [r1+0]")
	stops(t, api.ErrRange, 4, "load r2 [r1+0]", "store [r10-1] r2", "jge r2 8 3", "load r3 [r10-1]", "add r1 r3", "load r4 [r1+0]")
}

func TestNumbersThatAreNarrowedToNothing(t *testing.T) {
	passes(t, "mov r2 5", "jeq r2 5 1", "mov r3 r9")
	passes(t, "mov r2 5", "jne r2 5 1", "jump 1", "mov r3 r9")
	passes(t, "mov r2 5", "mov r3 6", "jlt r2 r3 1", "mov r3 r9")
	passes(t, "mov r2 5", "mov r3 6", "jge r2 r3 1", "jump 1", "mov r3 r9")
	passes(t, "load r2 [r1+0]", "jslt r2 10 3", "jslt r2 10 1", "jump 1", "mov r3 r9")
	stops(t, api.ErrNone, 2, "mov r2 5", "jeq r2 6 1", "mov r3 r9")
}
