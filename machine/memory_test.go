package machine_test

import (
	"math"
	"strconv"
	"testing"

	"gatehouse/api"
)

// 5.1, of Load and Store

// found are steps behind which r0 has the place 0 of a cell.
func found(cell int) []string {
	return []string{"mov r1 " + strconv.Itoa(cell), "call find"}
}

func TestLoadAndStoreAskForAPlace(t *testing.T) {
	stopsLast(t, api.ErrNone, "load r2 [r9+0]")
	stopsLast(t, api.ErrNone, "store [r9+0] 1")
	stopsLast(t, api.ErrArg, "mov r9 0", "load r2 [r9+0]")
	stopsLast(t, api.ErrArg, "mov r9 0", "store [r9+0] 1")
	// Of a cell that is not there there is no place.
	stopsLast(t, api.ErrArg, with(found(api.Cells), "load r2 [r0+0]")...)
	stopsLast(t, api.ErrArg, with(found(api.Cells), "store [r0+0] 1")...)
	// A call takes the place in what is told away.
	stopsLast(t, api.ErrNone, "mov r1 0", "call emit", "load r2 [r1+0]")
	// Whether it is one is told ahead of how far on it is.
	stopsLast(t, api.ErrNone, "load r2 [r9+99]")
	stopsLast(t, api.ErrArg, "mov r9 0", "load r2 [r9+99]")
	stopsLast(t, api.ErrNone, "store [r9+99] 1")
	stopsLast(t, api.ErrArg, "mov r9 0", "store [r9+99] 1")
}

func TestTheWordsOfWhatIsTold(t *testing.T) {
	for i := range api.Words {
		ends(t, 20+int64(i), "load r0 "+at("r1", i), "exit")
		ends(t, 20+int64(i), "add r1 "+strconv.Itoa(i+5), "load r0 [r1-5]", "exit")
	}
	stopsLast(t, api.ErrRange, "load r2 [r1-1]")
	stopsLast(t, api.ErrRange, "load r2 [r1+8]")
	stopsLast(t, api.ErrRange, "add r1 3", "load r2 [r1-4]")
	stopsLast(t, api.ErrRange, "add r1 3", "load r2 [r1+5]")
}

func TestWhatIsToldIsNotChanged(t *testing.T) {
	for i := range api.Words {
		stopsLast(t, api.ErrState, "store "+at("r1", i)+" 1")
	}
	stopsLast(t, api.ErrState, "store [r1+0] r1")
	stopsLast(t, api.ErrState, "mov r2 1", "store [r1+0] r2")
	stopsLast(t, api.ErrRange, "store [r1-1] 1")
	stopsLast(t, api.ErrRange, "store [r1+8] 1")
	stopsLast(t, api.ErrState, "add r1 9", "store [r1-2] 1")
}

func TestTheWordsOfCells(t *testing.T) {
	for cell := range api.Cells {
		for k := range api.Width {
			want := 100*(1+int64(cell)) + int64(k)
			ends(t, want, with(found(cell), "load r0 "+at("r0", k), "exit")...)
			ends(t, want, with(found(cell), "sub r0 9", "load r0 "+at("r0", 9+k), "exit")...)
			passes(t, with(found(cell), "store "+at("r0", k)+" 1")...)
		}
		for _, off := range []int{-1, api.Width} {
			stopsLast(t, api.ErrRange, with(found(cell), "load r2 "+at("r0", off))...)
			stopsLast(t, api.ErrRange, with(found(cell), "store "+at("r0", off)+" 1")...)
		}
	}
}

func TestSlots(t *testing.T) {
	for slot := -api.Slots; slot < 0; slot++ {
		here := at("r10", slot)
		ends(t, 5, "store "+here+" 5", "load r0 "+here, "exit")
		ends(t, 6, "mov r3 6", "store "+here+" r3", "mov r3 7", "load r0 "+here, "exit")
		ends(t, 8, "store "+here+" 5", "store "+here+" 8", "load r0 "+here, "exit")
		for other := -api.Slots; other < 0; other++ {
			if other != slot {
				stopsLast(t, api.ErrNone, "store "+here+" 5", "load r0 "+at("r10", other))
			}
		}
	}
	for _, off := range []int{-api.Slots - 1, 0, 1, math.MinInt64, math.MaxInt64} {
		stopsLast(t, api.ErrRange, "store "+at("r10", off)+" 5")
		stopsLast(t, api.ErrRange, "load r2 "+at("r10", off))
	}
}

// TestOffGoesOnWithSixtyFourBits: how far on and Off come beyond the greatest number, and back.
func TestOffGoesOnWithSixtyFourBits(t *testing.T) {
	const big, small = math.MaxInt64, math.MinInt64
	ends(t, 26, "add r1 "+text(small), "load r0 "+at("r1", small), "add r0 6", "exit")
	ends(t, 27, "add r1 "+text(small+7), "load r0 "+at("r1", small), "exit")
	ends(t, 25, "add r1 "+text(big), "add r1 7", "load r0 "+at("r1", small), "sub r0 1", "exit")
	stopsLast(t, api.ErrRange, "add r1 "+text(small+8), "load r0 "+at("r1", small))
	stopsLast(t, api.ErrRange, "add r1 "+text(big), "load r0 "+at("r1", small))
	ends(t, 9, "store [r10-2] 9", "mov r2 r10", "add r2 "+text(big), "load r0 "+at("r2", big), "exit")
	ends(t, 9, "store [r10-2] 9", "mov r2 r10", "add r2 "+text(big-1), "load r0 "+at("r2", small), "exit")
	ends(t, 9, "mov r2 r10", "add r2 "+text(big), "store "+at("r2", big)+" 9", "load r0 [r10-2]", "exit")
	stopsLast(t, api.ErrRange, "mov r2 r10", "add r2 "+text(big), "load r0 [r2+0]")
	stopsLast(t, api.ErrRange, "mov r2 r10", "add r2 "+text(big-8), "load r0 [r2+0]")
	ends(t, 103, with(found(0), "add r0 "+text(small+3), "load r0 "+at("r0", small), "exit")...)
	stopsLast(t, api.ErrRange, with(found(0), "add r0 "+text(small+4), "load r0 "+at("r0", small))...)
	stopsLast(t, api.ErrRange, with(found(0), "add r0 "+text(small), "load r0 "+at("r0", big))...)
}

func TestSlotsKeepPlaces(t *testing.T) {
	ends(t, 25, "add r1 4", "store [r10-1] r1", "load r2 [r10-1]", "load r0 [r2+1]", "exit")
	ends(t, 5, "store [r10-2] 5", "store [r10-1] r10", "load r2 [r10-1]", "load r0 [r2-2]", "exit")
	ends(t, 302, with(found(2), "add r0 2", "store [r10-16] r0", "load r2 [r10-16]", "load r0 [r2+0]", "exit")...)
	stopsLast(t, api.ErrArg, "store [r10-1] r1", "load r2 [r10-1]", "mul r2 1")
	// A number in its stead.
	ends(t, 6, "store [r10-1] r1", "store [r10-1] 6", "load r0 [r10-1]", "exit")
}

func TestOneRegisterLeadsAndIsLoaded(t *testing.T) {
	ends(t, 23, "load r1 [r1+3]", "mov r0 r1", "exit")
	ends(t, 25, "store [r10-1] r1", "mov r2 r10", "load r2 [r2-1]", "load r0 [r2+5]", "exit")
}

func TestWhatIsStoredIsThere(t *testing.T) {
	stopsLast(t, api.ErrNone, "store [r10-1] r8")
	stopsLast(t, api.ErrNone, with(found(0), "store [r0+0] r8")...)
	// A cell takes numbers alone.
	stopsLast(t, api.ErrArg, with(found(0), "store [r0+0] r0")...)
	stopsLast(t, api.ErrArg, with(found(0), "store [r0+0] r10")...)
	stopsLast(t, api.ErrArg, with([]string{"mov r6 r1"}, with(found(0), "store [r0+0] r6")...)...)
	// A 0 for a cell that is not there is a number.
	ends(t, 0, with(found(9), "mov r6 r0", "mov r1 1", "call find", "store [r0+2] r6", "load r0 [r0+2]", "exit")...)
}

// TestWhereIsToldAheadOfWhat: of a Store whose place and whose second are both wrong the place is told.
func TestWhereIsToldAheadOfWhat(t *testing.T) {
	stopsLast(t, api.ErrNone, "store [r7+0] r8")
	stopsLast(t, api.ErrArg, "mov r9 0", "store [r9+0] r8")
	stopsLast(t, api.ErrRange, "store [r1+8] r8")
	stopsLast(t, api.ErrRange, "store [r10+0] r8")
	stopsLast(t, api.ErrRange, with(found(0), "store [r0+4] r8")...)
	stopsLast(t, api.ErrRange, with(found(0), "store [r0+4] r0")...)
	stopsLast(t, api.ErrState, "store [r1+7] r8")
	stopsLast(t, api.ErrNone, with(found(0), "store [r0+3] r8")...)
}

func TestWhatIsStoredInACellIsFoundAgain(t *testing.T) {
	for cell := range api.Cells {
		for k := range api.Width {
			l := program(t, with(with(found(cell), "store "+at("r0", k)+" -5"), with(found(cell), "load r0 "+at("r0", k), "exit")...)...)
			cells := table()
			got := runs(t, l, cells)
			want := table()
			want[cell][k] = -5
			if got.Num != -5 || got.Cells != want {
				t.Errorf("cell %d, word %d: %d, %v", cell, k, got.Num, got.Cells)
			}
			if cells != table() {
				t.Errorf("the table that was handed in is %v", cells)
			}
		}
	}
	// A word that another place leads to, too.
	ends(t, 8, with(found(1), "mov r6 r0", "mov r1 1", "call find", "store [r0+3] 8", "load r0 [r6+3]", "exit")...)
	// From a register; the word behind it stays.
	ends(t, 203, with(found(1), "mov r2 8", "store [r0+2] r2", "load r0 [r0+3]", "exit")...)
}
