package machine_test

import (
	"testing"

	"gatehouse/api"
	"gatehouse/machine"
	"gatehouse/op"
)

// 5.1 and 5.2, of steps that ask

// askers are the names of the codes from Jeq to Jsle.
func askers() []string {
	return []string{"jeq", "jne", "jgt", "jge", "jlt", "jle", "jsgt", "jsge", "jslt", "jsle"}
}

// leads says whether a step that asks leads on, behind others.
func leads(t *testing.T, ahead []string, asks string) bool {
	t.Helper()
	got := run(t, with(ahead, asks+" 2", "mov r0 1", "exit", "mov r0 2", "exit")...)
	// Both ways are of the same length; which one it was is told by the number alone.
	if got.Steps != len(ahead)+3 || got.Num != 1 && got.Num != 2 {
		t.Errorf("%q, %q: %v", ahead, asks, got)
	}
	return got.Num == 2
}

func TestNumbersAreAskedByIs(t *testing.T) {
	for code := api.Jeq; code <= api.Jsle; code++ {
		for _, a := range edges() {
			for _, b := range edges() {
				for _, s := range []api.Step{{Code: code, Off: 1, Num: b}, {Code: code, Off: 1, Reg: true, Src: 2}} {
					l := []api.Step{{Code: api.Mov, Num: a}, {Code: api.Mov, Dst: 2, Num: b}, s, {Code: api.Xor, Num: 1}, {Code: api.Exit}}
					got, err := machine.Run(l, words(), table(), clock)
					want, steps := a, 4
					if !op.Is(code, a, b) {
						want, steps = a^1, 5
					}
					if err != nil || got.Num != want || got.Steps != steps {
						t.Errorf("%d of %d and %d: %d in %d steps, %v", code, a, b, got.Num, got.Steps, err)
					}
				}
			}
		}
	}
}

func TestARegisterThatIsAskedAgainstItself(t *testing.T) {
	for i, name := range askers() {
		for _, n := range edges() {
			want := op.Is(api.Jeq+i, n, n)
			if leads(t, []string{"mov r3 " + text(n)}, name+" r3 r3") != want {
				t.Errorf("%s of %d and itself is not %v", name, n, want)
			}
		}
		stopsLast(t, api.ErrNone, name+" r3 r3 0")
		for _, ahead := range places() {
			stopsLast(t, api.ErrArg, with(ahead, name+" r8 r8 0")...)
		}
	}
}

func TestWhatHasNothingIsNotAsked(t *testing.T) {
	for _, name := range askers() {
		stopsLast(t, api.ErrNone, name+" r2 0 0")
		stopsLast(t, api.ErrNone, "mov r2 0", name+" r2 r3 0")
		stopsLast(t, api.ErrNone, "mov r2 0", name+" r3 r2 0")
		// It is told ahead of what is of another kind.
		stopsLast(t, api.ErrNone, name+" r1 r3 0")
		stopsLast(t, api.ErrNone, name+" r3 r1 0")
	}
}

func TestAPlaceIsNeverNought(t *testing.T) {
	for _, ahead := range places() {
		// However far on it is.
		for _, n := range []int64{0, 1, -1, 16, least, most} {
			ahead := with(ahead, "add r8 "+text(n))
			if leads(t, ahead, "jeq r8 0") {
				t.Errorf("%q: it is 0", ahead)
			}
			if !leads(t, ahead, "jne r8 0") {
				t.Errorf("%q: it is not other than 0", ahead)
			}
		}
	}
	// Top is one as any.
	if leads(t, nil, "jeq r10 0") || !leads(t, nil, "jne r10 0") {
		t.Errorf("the frame is 0")
	}
}

func TestWhetherACellWasFound(t *testing.T) {
	for cell := -1; cell <= api.Cells; cell++ {
		there := 0 <= cell && cell < api.Cells
		if leads(t, found(cell), "jne r0 0") != there || leads(t, found(cell), "jeq r0 0") == there {
			t.Errorf("cell %d is not asked for rightly", cell)
		}
	}
}

// TestAPlaceStaysWhatItIs: it may be gone on with behind a step that asked for it.
func TestAPlaceStaysWhatItIs(t *testing.T) {
	ends(t, 203, with(found(1), "add r0 1", "jne r0 0 1", "exit", "load r0 [r0+2]", "exit")...)
	ends(t, 27, "jeq r1 0 0", "load r0 [r1+7]", "exit")
}

func TestPlacesAreAskedForNothingElse(t *testing.T) {
	for _, ahead := range places() {
		for _, name := range askers() {
			if name != "jeq" && name != "jne" {
				stopsLast(t, api.ErrArg, with(ahead, name+" r8 0 0")...)
			}
			for _, n := range []int64{1, -1, least, most} {
				stopsLast(t, api.ErrArg, with(ahead, name+" r8 "+text(n)+" 0")...)
			}
			// A register that has 0 is not the number 0.
			stopsLast(t, api.ErrArg, with(ahead, "mov r2 0", name+" r8 r2 0")...)
			stopsLast(t, api.ErrArg, with(ahead, "mov r2 0", name+" r2 r8 0")...)
			stopsLast(t, api.ErrArg, with(ahead, name+" r8 r10 0")...)
			stopsLast(t, api.ErrArg, with(ahead, name+" r10 r8 0")...)
		}
	}
}
