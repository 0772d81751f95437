package verify_test

import (
	"math"
	"testing"

	"gatehouse/api"
	"gatehouse/bound"
)

// 4.3

// found are steps behind which r0 has the place 0 of a cell.
func found() []string {
	return []string{"mov r1 0", "call find", "jne r0 0 1", "exit"}
}

// maybe are steps behind which r0 has a MAYBE.
func maybe() []string { return []string{"mov r1 0", "call find"} }

func TestLoadAndStoreAskForAPlace(t *testing.T) {
	stopsLast(t, api.ErrNone, "load r2 [r9+0]")
	stopsLast(t, api.ErrNone, "store [r9+0] 1")
	stopsLast(t, api.ErrArg, "mov r9 0", "load r2 [r9+0]")
	stopsLast(t, api.ErrArg, "mov r9 0", "store [r9+0] 1")
	stopsLast(t, api.ErrArg, with(maybe(), "load r2 [r0+0]")...)
	stopsLast(t, api.ErrArg, with(maybe(), "store [r0+0] 1")...)
	// A call takes the place in what is told away.
	stopsLast(t, api.ErrNone, "mov r1 0", "call emit", "load r2 [r1+0]")
}

// TestWhereAndKindAreToldAheadOfTheSecond: of a Store whose second has nothing the place is told first.
func TestWhereAndKindAreToldAheadOfTheSecond(t *testing.T) {
	stopsLast(t, api.ErrArg, "mov r9 0", "store [r9+0] r8")
	stopsLast(t, api.ErrArg, with(maybe(), "store [r0+0] r8")...)
	stopsLast(t, api.ErrRange, "store [r1+8] r8")
	stopsLast(t, api.ErrRange, "store [r10+0] r8")
	stopsLast(t, api.ErrRange, with(found(), "store [r0+4] r8")...)
	stopsLast(t, api.ErrState, "store [r1+7] r8")
	stopsLast(t, api.ErrNone, with(found(), "store [r0+3] r8")...)
	stopsLast(t, api.ErrNone, "store [r10-1] r8")
	stopsLast(t, api.ErrNone, with(oneToThree(), "add r4 r10", "store [r4-4] r8")...)
}

func TestWhatIsToldIsNotChanged(t *testing.T) {
	for off := range api.Words {
		stopsLast(t, api.ErrState, "store "+at("r1", off)+" 1")
	}
	stopsLast(t, api.ErrRange, "store [r1+8] 1")
	stopsLast(t, api.ErrRange, "store [r1-1] 1")
	stopsLast(t, api.ErrState, with(oneToThree(), "add r4 r1", "store [r4+4] 1")...)
	stopsLast(t, api.ErrRange, with(oneToThree(), "add r4 r1", "store [r4+5] 1")...)
	stopsLast(t, api.ErrState, "store [r1+0] r1")
}

func TestLoadOfWordsIsAnyNumber(t *testing.T) {
	ends(t, bound.All(), "load r0 [r1+3]", "exit")
	ends(t, bound.All(), with(oneToThree(), "add r4 r1", "load r0 [r4+0]", "exit")...)
	cell := []string{"mov r1 0", "call find", "jne r0 0 2", "mov r0 3", "exit", "store [r0+1] 3", "load r0 [r0+1]", "exit"}
	ends(t, bound.All(), cell...)
	// It takes the place of a place, too.
	ends(t, bound.All(), "load r1 [r1+0]", "mov r0 r1", "exit")
}

func TestStoreIntoACell(t *testing.T) {
	for off := range api.Width {
		passes(t, with(found(), "store "+at("r0", off)+" 7")...)
	}
	stopsLast(t, api.ErrRange, with(found(), "store [r0-1] 7")...)
	stopsLast(t, api.ErrRange, with(found(), "store [r0+4] 7")...)
	passes(t, with(found(), "mov r6 7", "store [r0+0] r6")...)
	stopsLast(t, api.ErrNone, with(found(), "store [r0+0] r6")...)
	stopsLast(t, api.ErrArg, with(found(), "store [r0+0] r0")...)
	stopsLast(t, api.ErrArg, with(found(), "store [r0+0] r10")...)
	stopsLast(t, api.ErrArg, "mov r6 r1", "mov r1 0", "call find", "jne r0 0 1", "exit", "store [r0+0] r6")
	stopsLast(t, api.ErrArg, "mov r1 0", "call find", "mov r6 r0", "jne r0 0 1", "exit", "store [r0+0] r6")
	// A cell's words are numbers: one of several may be stored into.
	several := with(oneToThree(), "mov r6 r4", "mov r1 0", "call find", "jne r0 0 1", "exit", "add r0 r6")
	passes(t, with(several, "store [r0+0] 7")...)
	passes(t, with(several, "store [r0-1] r6")...)
	stopsLast(t, api.ErrRange, with(several, "store [r0+1] 7")...)
	stopsLast(t, api.ErrRange, with(several, "store [r0-2] 7")...)
	stopsLast(t, api.ErrArg, with(several, "store [r0+0] r10")...)
}

func TestSlotHasWhatWasStored(t *testing.T) {
	for slot := -api.Slots; slot < 0; slot++ {
		there := at("r10", slot)
		ends(t, of(-7, -7), "store "+there+" -7", "load r0 "+there, "exit")
		// Neither beside it nor ahead of it is there anything.
		for other := -api.Slots; other < 0; other++ {
			if other != slot {
				stopsLast(t, api.ErrNone, "store "+there+" -7", "load r0 "+at("r10", other))
			}
		}
	}
	ends(t, of(2, 2), "store [r10-3] 1", "store [r10-3] 2", "load r0 [r10-3]", "exit")
	ends(t, of(1, 3), with(oneToThree(), "store [r10-3] r4", "mov r4 9", "load r0 [r10-3]", "exit")...)
	ends(t, of(4, 4), "mov r6 r10", "sub r6 5", "store [r6+2] 4", "load r0 [r10-3]", "exit")
}

// TestSlotHasPlacesAndMaybes: what is loaded again is what it was.
func TestSlotHasPlacesAndMaybes(t *testing.T) {
	spans(t, -2, 5, "r2", "add r1 2", "store [r10-1] r1", "load r2 [r10-1]")
	passes(t, "store [r10-1] r10", "load r2 [r10-1]", "store [r2-16] 1")
	spans(t, -1, 4, "r2", with(oneToThree(), "add r4 r1", "store [r10-1] r4", "load r2 [r10-1]")...)
	spans(t, 0, 3, "r2", with(found(), "store [r10-1] r0", "load r2 [r10-1]")...)
	passes(t, with(maybe(), "store [r10-1] r0", "load r2 [r10-1]", "jeq r2 0 1", "store [r2+3] 1")...)
	stopsLast(t, api.ErrArg, with(maybe(), "store [r10-1] r0", "load r2 [r10-1]", "load r2 [r2+0]")...)
	// A place is gone where a number is stored over it.
	stopsLast(t, api.ErrArg, "store [r10-1] r1", "store [r10-1] 0", "load r2 [r10-1]", "load r2 [r2+0]")
}

// several are steps behind which r4 has a place of the slots -4 to -2.
func several(ahead ...string) []string {
	return with(with(ahead, oneToThree()...), "add r4 r10", "sub r4 5")
}

func TestLoadOfSeveralSlots(t *testing.T) {
	load := []string{"load r0 [r4+0]", "exit"}
	ends(t, of(-5, 9), with(several("store [r10-4] 1", "store [r10-3] -5", "store [r10-2] 9"), load...)...)
	ends(t, of(-5, 9), with(several("store [r10-4] -5", "store [r10-3] 9", "store [r10-2] 1"), load...)...)
	ends(t, of(-5, 9), with(several("store [r10-4] 9", "store [r10-3] 1", "store [r10-2] -5"), load...)...)
	ends(t, of(7, 7), with(several("store [r10-4] 7", "store [r10-3] 7", "store [r10-2] 7"), load...)...)
	// What lies beside them is not asked.
	ends(t, of(0, 2), with(several("store [r10-5] r1", "store [r10-4] 0", "store [r10-3] 1", "store [r10-2] 2", "store [r10-1] 99"), load...)...)
	ends(t, of(1, 99), with(several("store [r10-4] 0", "store [r10-3] 1", "store [r10-2] 2", "store [r10-1] 99"), "load r0 [r4+1]", "exit")...)
}

func TestSeveralSlotsMustBeInside(t *testing.T) {
	passes(t, with(several(full()...), "load r0 [r4-12]")...)
	passes(t, with(several(full()...), "load r0 [r4+1]")...)
	stopsLast(t, api.ErrRange, with(several(full()...), "load r0 [r4-13]")...)
	stopsLast(t, api.ErrRange, with(several(full()...), "load r0 [r4+2]")...)
	// It is told ahead of what they have.
	stopsLast(t, api.ErrRange, with(several(), "load r0 [r4-13]")...)
	stopsLast(t, api.ErrRange, with(several("store [r10-3] r1"), "load r0 [r4+2]")...)
}

// TestSeveralSlotsOfWhichOneHasNoNumber: from the least one on, whatever it is.
func TestSeveralSlotsOfWhichOneHasNoNumber(t *testing.T) {
	const none, place, number = "", " r1", " 1"
	for _, c := range []struct {
		slots [3]string
		want  api.Errno
	}{
		{[3]string{none, number, number}, api.ErrNone},
		{[3]string{number, none, number}, api.ErrNone},
		{[3]string{number, number, none}, api.ErrNone},
		{[3]string{place, number, number}, api.ErrArg},
		{[3]string{number, place, number}, api.ErrArg},
		{[3]string{number, number, place}, api.ErrArg},
		{[3]string{none, place, number}, api.ErrNone},
		{[3]string{place, none, number}, api.ErrArg},
		{[3]string{number, none, place}, api.ErrNone},
		{[3]string{number, place, none}, api.ErrArg},
		{[3]string{place, number, none}, api.ErrArg},
		{[3]string{none, number, place}, api.ErrNone},
		{[3]string{none, none, none}, api.ErrNone},
		{[3]string{place, place, place}, api.ErrArg},
		{[3]string{number, number, number}, api.OK},
	} {
		var ahead []string
		for i, second := range c.slots {
			if second != none {
				ahead = append(ahead, "store "+at("r10", i-4)+second)
			}
		}
		steps := with(several(ahead...), "load r0 [r4+0]")
		if c.want == api.OK {
			passes(t, steps...)
			continue
		}
		stopsLast(t, c.want, steps...)
	}
	kept := with(maybe(), "store [r10-2] r0", "store [r10-1] 1", "call time", "and r0 1", "mov r4 r10", "sub r4 r0")
	stopsLast(t, api.ErrArg, with(kept, "load r2 [r4-1]")...)
	stopsLast(t, api.ErrArg, with(with(found(), "store [r10-2] 1", "store [r10-1] r0", "call time", "and r0 1", "mov r4 r10", "sub r4 r0"), "load r2 [r4-1]")...)
}

func TestStoreIntoOneSlotAlone(t *testing.T) {
	for _, second := range []string{"1", "r1", "r10", "r4"} {
		stopsLast(t, api.ErrRange, with(several(), "store [r4+0] "+second)...)
		stopsLast(t, api.ErrRange, with(several(full()...), "store [r4+1] "+second)...)
		stopsLast(t, api.ErrRange, with(several(full()...), "store [r4+2] "+second)...)
		passes(t, "mov r4 r10", "store [r10-1] "+second)
	}
	// Two are several.
	stopsLast(t, api.ErrRange, "load r4 [r1+0]", "and r4 1", "add r4 r10", "store [r4-2] 1")
	passes(t, "load r4 [r1+0]", "and r4 0", "add r4 r10", "store [r4-2] 1")
}

// TestOffsThatDoNotFit: a place and how far on it leads do not come round.
func TestOffsThatDoNotFit(t *testing.T) {
	for _, off := range []int{math.MaxInt, math.MinInt} {
		for _, r := range []string{"r1", "r10"} {
			stopsLast(t, api.ErrRange, "load r2 "+at(r, off))
			stopsLast(t, api.ErrRange, "store "+at(r, off)+" 1")
		}
	}
	stopsLast(t, api.ErrRange, "add r1 "+num(least), "load r2 "+at("r1", math.MinInt))
	stopsLast(t, api.ErrRange, "add r1 "+num(least), "store "+at("r1", math.MinInt)+" 1")
	passes(t, "add r1 "+num(least), "add r1 7", "load r2 "+at("r1", math.MaxInt))
	stopsLast(t, api.ErrRange, "add r1 "+num(least), "add r1 9", "load r2 "+at("r1", math.MaxInt))
	passes(t, "mov r2 r10", "add r2 "+num(most), "sub r2 0", "store "+at("r2", math.MinInt)+" 1")
}
