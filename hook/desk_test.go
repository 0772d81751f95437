package hook_test

import (
	"math"
	"slices"
	"strings"
	"testing"

	"gatehouse/api"
	"gatehouse/hook"
)

// twenty is how many events wait at a hook at most.
const twenty = 20

// tellsTime is a program that gives out the time and the first word that is told, in 7 steps: an event through it spends 8.
const tellsTime = "load r6 [r1+0]; call time; mov r1 r0; call emit; mov r1 r6; call emit; exit"

// newDesk is a Desk that may spend so much.
func newDesk(t *testing.T, a, b, c int) *hook.Desk {
	t.Helper()
	d, err := hook.New([3]int{a, b, c})
	if err != nil || d == nil {
		t.Fatalf("%d, %d, %d: %v, %v", a, b, c, d, err)
	}
	return d
}

// chain is a hook's Chain, which is there.
func chain(t *testing.T, d *hook.Desk, k int) *hook.Chain {
	t.Helper()
	c, err := d.Chain(k)
	if err != nil || c == nil {
		t.Fatalf("Chain %d: %v, %v", k, c, err)
	}
	return c
}

// events lets so many events wait at a hook.
func events(t *testing.T, d *hook.Desk, k, n int) {
	t.Helper()
	for i := range n {
		if err := d.Event(k, [api.Words]int64{int64(i)}); err != nil {
			t.Fatalf("event %d of hook %d: %v", i, k, err)
		}
	}
}

// spends is a program by which an event spends so much, from 3 on.
func spends(n int) string { return strings.Repeat("mov r0 0; ", n-2) + "exit" }

// state wants so many events to wait at a hook, and so much to be left.
func state(t *testing.T, d *hook.Desk, k, waits, left int) {
	t.Helper()
	if w, l := d.Waits(k), d.Left(k); w != waits || l != left {
		t.Errorf("at hook %d %d wait, and %d is left, not %d, %d", k, w, l, waits, left)
	}
}

// round wants so many events to go through, all of them at one hook, in a round.
func round(t *testing.T, d *hook.Desk, k, n int) {
	t.Helper()
	got := d.Round()
	for _, x := range got {
		if x.Hook != k {
			t.Errorf("an event of hook %d went through, not of %d", x.Hook, k)
		}
	}
	if len(got) != n {
		t.Errorf("%d events went through, not %d", len(got), n)
	}
}

// done wants a round to tell so much.
func done(t *testing.T, d *hook.Desk, want ...hook.Done) {
	t.Helper()
	got := d.Round()
	if len(got) != len(want) {
		t.Fatalf("it tells %v, not %v", got, want)
	}
	for i := range got {
		if got[i].Hook != want[i].Hook {
			t.Errorf("%d: it is hook %d, not %d", i, got[i].Hook, want[i].Hook)
		}
		same(t, got[i].Said, want[i].Said)
	}
}

// 6.2

func TestNew(t *testing.T) {
	for k := range 3 {
		for _, n := range []int{math.MinInt, -1, 0, 1, 2, 999, 1000, 1001, math.MaxInt} {
			for _, other := range []int{1, 1000} {
				may := [3]int{other, other, other}
				may[k] = n
				d, err := hook.New(may)
				if 1 <= n && n <= 1000 {
					if err != nil || d == nil {
						t.Errorf("%v: %v, %v", may, d, err)
					}
					continue
				}
				wrong(t, err, api.ErrRange, -1)
				if d != nil {
					t.Errorf("%v: a Desk beside an error", may)
				}
			}
		}
	}
}

func TestAtFirst(t *testing.T) {
	d := newDesk(t, 1, 10, 1000)
	for k := range 3 {
		state(t, d, k, 0, 0)
		stand(t, chain(t, d, k))
	}
	for range 3 {
		if got := d.Round(); len(got) != 0 {
			t.Errorf("none wait, and it tells %v", got)
		}
		for k := range 3 {
			state(t, d, k, 0, 0)
		}
	}
}

func TestHooksThatThereAre(t *testing.T) {
	d := newDesk(t, 10, 20, 30)
	events(t, d, 0, 1)
	events(t, d, 2, twenty)
	for _, k := range []int{math.MinInt, -1, 3, 4, math.MaxInt} {
		c, err := d.Chain(k)
		wrong(t, err, api.ErrRange, -1)
		if c != nil {
			t.Errorf("Chain %d is there", k)
		}
		wrong(t, d.Event(k, [api.Words]int64{}), api.ErrRange, -1)
		state(t, d, k, -1, 0)
	}
	for k, waits := range []int{1, 0, twenty} {
		state(t, d, k, waits, 0)
		if chain(t, d, k) != chain(t, d, k) {
			t.Errorf("hook %d has two Chains", k)
		}
	}
	// There is no such hook behind a round, too.
	d.Round()
	for _, k := range []int{-1, 3} {
		state(t, d, k, -1, 0)
	}
}

// TestEachHookHasItsOwn: a Chain, events, and what is left.
func TestEachHookHasItsOwn(t *testing.T) {
	d := newDesk(t, 5, 6, 7)
	for k := range 3 {
		attach(t, chain(t, d, k), gives(int64(k), int64(k)), 0)
		for range k {
			attach(t, chain(t, d, k), ends(0), 1)
		}
		events(t, d, k, 2+k)
	}
	for k := range 3 {
		stand(t, chain(t, d, k), []int{1, 2, 3}[:k+1]...)
		state(t, d, k, 2+k, 0)
	}
	done(t, d,
		hook.Done{Hook: 0, Said: hook.Said{Out: []int64{0}, Steps: 4}},
		hook.Done{Hook: 1, Said: hook.Said{By: 1, Num: 1, Out: []int64{1}, Steps: 4}},
		hook.Done{Hook: 1, Said: hook.Said{By: 1, Num: 1, Out: []int64{1}, Steps: 4}},
		hook.Done{Hook: 2, Said: hook.Said{By: 1, Num: 2, Out: []int64{2}, Steps: 4}},
		hook.Done{Hook: 2, Said: hook.Said{By: 1, Num: 2, Out: []int64{2}, Steps: 4}},
	)
	state(t, d, 0, 1, 0)
	state(t, d, 1, 1, -4)
	state(t, d, 2, 2, -3)
}

func TestTheTwentiethAndTheTwentyFirst(t *testing.T) {
	for k := range 3 {
		d := newDesk(t, 1000, 1000, 1000)
		attach(t, chain(t, d, k), tellsTime, 0)
		events(t, d, k, twenty)
		for range 2 {
			wrong(t, d.Event(k, [api.Words]int64{99}), api.ErrFull, -1)
		}
		state(t, d, k, twenty, 0)
		// Another hook has room of its own.
		events(t, d, (k+1)%3, 1)
		var out []int64
		for _, x := range d.Round() {
			if x.Hook == k {
				out = append(out, x.Said.Out[1])
			}
		}
		for i := range int64(twenty) {
			if len(out) != twenty || out[i] != i {
				t.Fatalf("hook %d: %v went through", k, out)
			}
		}
		events(t, d, k, twenty)
		wrong(t, d.Event(k, [api.Words]int64{}), api.ErrFull, -1)
	}
}

// TestThereIsRoomBehindEachThatWent: and the new one waits behind all that do.
func TestThereIsRoomBehindEachThatWent(t *testing.T) {
	d := newDesk(t, 1, 8, 1)
	attach(t, chain(t, d, 1), tellsTime, 0)
	events(t, d, 1, twenty)
	for i := range int64(50) {
		// One goes through each round, as it spends 8.
		got := d.Round()
		if len(got) != 1 || !slices.Equal(got[0].Said.Out, []int64{i, i}) {
			t.Fatalf("round %d: %v", i, got)
		}
		if err := d.Event(1, [api.Words]int64{twenty + i}); err != nil {
			t.Fatalf("round %d: %v", i, err)
		}
		wrong(t, d.Event(1, [api.Words]int64{-1}), api.ErrFull, -1)
		state(t, d, 1, twenty, 0)
	}
}

// TestAnEventKeepsAllThatItIsTold: each word of it.
func TestAnEventKeepsAllThatItIsTold(t *testing.T) {
	d := newDesk(t, 1000, 1, 1)
	text := "mov r6 r1; "
	for i := range api.Words {
		text += "load r1 [r6+" + string(rune('0'+i)) + "]; call emit; "
	}
	attach(t, chain(t, d, 0), text+"exit", 0)
	var all [3][api.Words]int64
	for i := range all {
		for k := range all[i] {
			all[i][k] = int64(100*i+k) * math.MaxInt32
		}
		d.Event(0, all[i])
	}
	got := d.Round()
	if len(got) != len(all) {
		t.Fatalf("%v went through", got)
	}
	for i := range all {
		if !slices.Equal(got[i].Said.Out, all[i][:]) {
			t.Errorf("event %d was told %v, not %v", i, got[i].Said.Out, all[i])
		}
	}
}

// TestAnEventThroughNoProgramSpendsOne: as many go through as a hook may spend.
func TestAnEventThroughNoProgramSpendsOne(t *testing.T) {
	d := newDesk(t, 1, 7, 1000)
	for k := range 3 {
		events(t, d, k, 10)
	}
	var want []hook.Done
	for _, k := range []int{0, 1, 1, 1, 1, 1, 1, 1, 2, 2, 2, 2, 2, 2, 2, 2, 2, 2} {
		want = append(want, hook.Done{Hook: k})
	}
	done(t, d, want...)
	state(t, d, 0, 9, 0)
	state(t, d, 1, 3, 0)
	state(t, d, 2, 0, 0)
	done(t, d, hook.Done{Hook: 0}, hook.Done{Hook: 1}, hook.Done{Hook: 1}, hook.Done{Hook: 1})
	state(t, d, 0, 8, 0)
	// 4 were left, and none waited.
	state(t, d, 1, 0, 0)
}

// TestWhatIsLeftWhileEventsWait: an event goes through while more than 0 is left, whatever it spends; what is owed is paid over as many rounds as it takes.
func TestWhatIsLeftWhileEventsWait(t *testing.T) {
	for _, x := range []struct {
		may, spends   int
		through, left []int // round by round
	}{
		{5, 5, []int{1, 1, 1}, []int{0, 0, 0}},
		{5, 4, []int{2, 1, 1, 1, 2}, []int{-3, -2, -1, 0, -3}},
		{5, 6, []int{1, 1, 1, 1, 1, 0, 1}, []int{-1, -2, -3, -4, -5, 0, -1}},
		{5, 3, []int{2, 2, 1, 2}, []int{-1, -2, 0, -1}},
		{1, 5, []int{1, 0, 0, 0, 0, 1, 0}, []int{-4, -3, -2, -1, 0, -4, -3}},
		{10, 33, []int{1, 0, 0, 1, 0, 0, 1, 0, 0, 1}, []int{-23, -13, -3, -26, -16, -6, -29, -19, -9, -32}},
		{1000, 200, []int{5, 5}, []int{0, 0}},
	} {
		for k := range 3 {
			may := [3]int{1, 1, 1}
			may[k] = x.may
			d := newDesk(t, may[0], may[1], may[2])
			attach(t, chain(t, d, k), spends(x.spends), 0)
			events(t, d, k, twenty)
			waits := twenty
			for i, n := range x.through {
				round(t, d, k, n)
				waits -= n
				state(t, d, k, waits, x.left[i])
			}
		}
	}
}

// TestWhatIsLeftWhenNoneWait: nothing is saved, and what is owed stays owed, until it is paid.
func TestWhatIsLeftWhenNoneWait(t *testing.T) {
	d := newDesk(t, 1, 1, 10)
	attach(t, chain(t, d, 2), spends(4), 0)
	for range 5 {
		round(t, d, 2, 0)
		state(t, d, 2, 0, 0)
	}
	// Rounds in which none waited make no difference now: 10, 6, 2, -2.
	events(t, d, 2, 4)
	round(t, d, 2, 3)
	state(t, d, 2, 1, -2)
	// 8, 4, and none wait.
	round(t, d, 2, 1)
	state(t, d, 2, 0, 0)
	if err := chain(t, d, 2).Replace(1, program(t, spends(35))); err != nil {
		t.Error(err)
	}
	events(t, d, 2, 1)
	round(t, d, 2, 1)
	for _, left := range []int{-25, -15, -5, 0, 0} {
		state(t, d, 2, 0, left)
		round(t, d, 2, 0)
	}
}

// TestOweUpToNought: what is paid wholly leaves 0, and 0 lets none through.
func TestOweUpToNought(t *testing.T) {
	d := newDesk(t, 6, 1, 1)
	attach(t, chain(t, d, 0), spends(12), 0)
	events(t, d, 0, 3)
	round(t, d, 0, 1)
	state(t, d, 0, 2, -6)
	round(t, d, 0, 0)
	state(t, d, 0, 2, 0)
	round(t, d, 0, 1)
	state(t, d, 0, 1, -6)
}

// TestWhatOneEventMaySpend: as many steps as there may be, through as many programs.
func TestWhatOneEventMaySpend(t *testing.T) {
	d := newDesk(t, 1, 1, 1)
	for range eight {
		attach(t, chain(t, d, 1), spends(api.MaxCode+1), 0)
	}
	events(t, d, 1, 2)
	done(t, d, hook.Done{Hook: 1, Said: hook.Said{Steps: eight * api.MaxCode}})
	for owed := eight * api.MaxCode; owed >= 0; owed-- {
		state(t, d, 1, 1, -owed)
		if owed > 0 {
			round(t, d, 1, 0)
		}
	}
	round(t, d, 1, 1)
}

// TestTheTimeThatEachEventIsTold: over all hooks and rounds, and nothing but an event that went through counts.
func TestTheTimeThatEachEventIsTold(t *testing.T) {
	d := newDesk(t, 8, 16, 24)
	for k := range 3 {
		attach(t, chain(t, d, k), tellsTime, 0)
	}
	now := int64(0)
	for n := range 9 {
		for k := range 3 {
			events(t, d, k, (n+k)%5)
			d.Event(k+3, [api.Words]int64{})
			chain(t, d, k).Run([api.Words]int64{}, 1000)
		}
		last := 0
		for _, x := range d.Round() {
			if x.Hook < last || len(x.Said.Out) != 2 || x.Said.Out[0] != now {
				t.Fatalf("at %d, behind hook %d: %v", now, last, x)
			}
			now, last = now+1, x.Hook
		}
	}
	if now < 30 {
		t.Errorf("%d events alone went through", now)
	}
	// Each Desk has a time of its own.
	other := newDesk(t, 1, 1, 1)
	attach(t, chain(t, other, 0), tellsTime, 0)
	events(t, other, 0, 1)
	done(t, other, hook.Done{Said: hook.Said{Out: []int64{0, 0}, Steps: 7}})
}

// TestAnEventThatNoProgramIsThereForCounts: in the time, as any other.
func TestAnEventThatNoProgramIsThereForCounts(t *testing.T) {
	d := newDesk(t, 3, 1, 1)
	attach(t, chain(t, d, 2), tellsTime, 0)
	events(t, d, 0, 3)
	events(t, d, 1, 1)
	events(t, d, 2, 1)
	done(t, d, hook.Done{}, hook.Done{}, hook.Done{}, hook.Done{Hook: 1}, hook.Done{Hook: 2, Said: hook.Said{Out: []int64{4, 0}, Steps: 7}})
}

// TestTheChainIsAsItIsThen: what is attached or detached while events wait counts for them, and tables go from event to event.
func TestTheChainIsAsItIsThen(t *testing.T) {
	d := newDesk(t, 20, 1, 1)
	c := chain(t, d, 0)
	attach(t, c, ends(4), 0)
	events(t, d, 0, 3)
	c.Detach(1)
	attach(t, c, counts, 0)
	attach(t, c, ends(5), 0)
	said := hook.Said{By: 3, Num: 5, Steps: 10}
	done(t, d, hook.Done{Said: said}, hook.Done{Said: said})
	if got := first(t, c, 2); got != 2 {
		t.Errorf("behind two events the table has %d", got)
	}
	c.Detach(3)
	done(t, d, hook.Done{Said: hook.Said{Steps: 8}})
	if got := first(t, c, 2); got != 3 {
		t.Errorf("behind three events the table has %d", got)
	}
}

// P4

func TestWhatARoundTellsIsFresh(t *testing.T) {
	d := newDesk(t, 1000, 1, 1)
	attach(t, chain(t, d, 0), tellsTime, 0)
	events(t, d, 0, 3)
	a := d.Round()
	events(t, d, 0, 3)
	b := d.Round()
	if len(a) != 3 || len(b) != 3 {
		t.Fatalf("%v, %v", a, b)
	}
	for i := range a {
		_ = append(a[i].Said.Out, 77)
		a[i].Said.Out[0] = 55
	}
	_ = append(a, hook.Done{Hook: 9})
	for i := range a {
		want := []int64{55, int64(i)}
		if !slices.Equal(a[i].Said.Out, want) || !slices.Equal(b[i].Said.Out, []int64{int64(3 + i), int64(i)}) {
			t.Errorf("%d: %v, %v", i, a[i], b[i])
		}
	}
}
