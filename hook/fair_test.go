package hook_test

import (
	"fmt"
	"math/rand"
	"reflect"
	"slices"
	"sort"
	"testing"

	"gatehouse/api"
	"gatehouse/hook"
	"gatehouse/machine"
	"gatehouse/plain"
	"gatehouse/verify"
)

// 6.3

// varied is a program that takes more steps the greater the first word is that it is told: 5 at 0, and most + 3 beyond most.
func varied(most int) string {
	text := "load r2 [r1+0]; "
	for i := range most {
		text += fmt.Sprint("jsgt r2 ", i, " 1; jump ", 2*(most-1-i), "; ")
	}
	return text + ends(0)
}

// account is what a hook spent, against what it may.
type account struct {
	may, often      int // often: how many events come ahead of a round at most; twenty: as many as may wait
	spent, greatest int // greatest: by one event
	always          bool
}

// anyAccounts are those of three hooks at which much comes, or little, or nothing.
func anyAccounts(r *rand.Rand) (l [3]account) {
	for k := range l {
		l[k] = account{may: 1 + r.Intn(40), often: []int{0, 1, 3, 12, twenty}[r.Intn(5)], always: true}
	}
	return l
}

// come lets events wait at a hook.
func (a *account) come(r *rand.Rand, d *hook.Desk, k int) {
	n := r.Intn(a.often + 1)
	if a.often == twenty {
		n = twenty
	}
	for range n {
		d.Event(k, [api.Words]int64{int64(r.Intn(40))})
	}
}

// book adds what an event spent.
func (a *account) book(s hook.Said) {
	a.spent += s.Steps + 1
	a.greatest = max(a.greatest, s.Steps+1)
}

// fair says whether it holds behind so many rounds.
func (a *account) fair(rounds int) bool {
	return a.spent <= rounds*a.may+a.greatest && (!a.always || a.spent >= rounds*a.may)
}

// TestNobodyIsLeftBehind: many rounds with events that come between them, held against what each hook may.
func TestNobodyIsLeftBehind(t *testing.T) {
	r := rand.New(rand.NewSource(9))
	var always, sometimes, idle int
	for range 120 {
		hooks := anyAccounts(r)
		d := newDesk(t, hooks[0].may, hooks[1].may, hooks[2].may)
		for k := range hooks {
			for range r.Intn(4) {
				attach(t, chain(t, d, k), varied(1+r.Intn(30)), r.Intn(3))
			}
		}
		for n := 1; n <= 80; n++ {
			for k := range hooks {
				hooks[k].come(r, d, k)
			}
			for _, x := range d.Round() {
				hooks[x.Hook].book(x.Said)
			}
			for k := range hooks {
				a := &hooks[k]
				a.always = a.always && d.Waits(k) > 0
				if !a.fair(n) {
					t.Fatalf("hook %d, in %d rounds: %+v", k, n, *a)
				}
			}
		}
		for _, a := range hooks {
			switch {
			case a.always:
				always++
			case a.spent > 0:
				sometimes++
			default:
				idle++
			}
		}
	}
	// Hooks at which nothing comes would hold, too; there are to be enough of each kind.
	if always < 50 || sometimes < 50 || idle < 20 {
		t.Errorf("%d always had events, %d sometimes, %d never", always, sometimes, idle)
	}
}

// TestOthersMakeNoDifference: what one hook's events spend, and when they go through, hangs on nothing at the others.
func TestOthersMakeNoDifference(t *testing.T) {
	alone, beside := newDesk(t, 1, 7, 1), newDesk(t, 1000, 7, 1000)
	for _, d := range []*hook.Desk{alone, beside} {
		attach(t, chain(t, d, 1), varied(20), 0)
	}
	for _, k := range []int{0, 2} {
		attach(t, chain(t, beside, k), spends(api.MaxCode), 0)
	}
	for n := range 60 {
		for _, k := range []int{0, 2} {
			for beside.Waits(k) < twenty {
				beside.Event(k, [api.Words]int64{})
			}
		}
		for i := range n % 3 {
			told := [api.Words]int64{int64(n*7+i) % 25}
			alone.Event(1, told)
			beside.Event(1, told)
		}
		alone.Round()
		beside.Round()
		state(t, beside, 1, alone.Waits(1), alone.Left(1))
	}
}

// 6.1 and 6.2, all at once

// entry is a program of the model.
type entry struct {
	id, rank int
	steps    []api.Step
	cells    api.Table
}

// model is a Desk again, as plainly as may be: lists, sorted anew each time.
type model struct {
	may, left, last [3]int
	chains          [3][]*entry
	waiting         [3][][api.Words]int64
	time            int64
}

// find is a program of the model; nil: there is none.
func (m *model) find(k, id int) *entry {
	for _, e := range m.chains[k] {
		if e.id == id {
			return e
		}
	}
	return nil
}

// attach is Attach.
func (m *model) attach(k int, l []api.Step, rank int) (int, error) {
	if _, err := verify.Verify(l); err != nil {
		return 0, err
	}
	if len(m.chains[k]) >= eight {
		return 0, api.ErrFull
	}
	m.last[k]++
	m.chains[k] = append(m.chains[k], &entry{id: m.last[k], rank: rank, steps: slices.Clone(l)})
	sort.SliceStable(m.chains[k], func(i, j int) bool { return m.chains[k][i].rank < m.chains[k][j].rank })
	return m.last[k], nil
}

// replace is Replace.
func (m *model) replace(k, id int, l []api.Step) error {
	e := m.find(k, id)
	if e == nil {
		return api.ErrMissing
	}
	if _, err := verify.Verify(l); err != nil {
		return err
	}
	e.steps = slices.Clone(l)
	return nil
}

// detach is Detach.
func (m *model) detach(k, id int) error {
	e := m.find(k, id)
	if e == nil {
		return api.ErrMissing
	}
	m.chains[k] = slices.DeleteFunc(m.chains[k], func(o *entry) bool { return o == e })
	return nil
}

// run is Run.
func (m *model) run(t *testing.T, k int, told [api.Words]int64, time int64) (s hook.Said) {
	t.Helper()
	for _, e := range m.chains[k] {
		ran, err := machine.Run(e.steps, told, e.cells, time)
		if err != nil {
			t.Fatalf("%v went wrong: %v", e.steps, err)
		}
		e.cells = ran.Cells
		s.Out, s.Steps = append(s.Out, ran.Out...), s.Steps+ran.Steps
		if ran.Num != 0 {
			s.By, s.Num = e.id, ran.Num
			return s
		}
	}
	return s
}

// round is Round.
func (m *model) round(t *testing.T) (l []hook.Done) {
	t.Helper()
	for k := range 3 {
		m.left[k] += m.may[k]
		for len(m.waiting[k]) > 0 && m.left[k] > 0 {
			s := m.run(t, k, m.waiting[k][0], m.time)
			m.waiting[k], m.time = m.waiting[k][1:], m.time+1
			m.left[k] -= s.Steps + 1
			l = append(l, hook.Done{Hook: k, Said: s})
		}
		if len(m.waiting[k]) == 0 && m.left[k] > 0 {
			m.left[k] = 0
		}
	}
	return l
}

// event is Event.
func (m *model) event(k int, told [api.Words]int64) error {
	if len(m.waiting[k]) >= twenty {
		return api.ErrFull
	}
	m.waiting[k] = append(m.waiting[k], told)
	return nil
}

// agree wants two answers to be the same, and their errors, too.
func agree(t *testing.T, what string, got, want any, err, wanted error) {
	t.Helper()
	e, place := plain.Place(err)
	we, wp := plain.Place(wanted)
	if fmt.Sprint(got) != fmt.Sprint(want) || e != we || place != wp {
		t.Fatalf("%s: %v, error %d at %d, not %v, error %d at %d", what, got, e, place, want, we, wp)
	}
}

// one does something at a hook, of the Desk and of the model, and holds what they tell against each other.
func (m *model) one(t *testing.T, r *rand.Rand, d *hook.Desk, l []api.Step) {
	t.Helper()
	k, id := r.Intn(3), r.Intn(12)
	c := chain(t, d, k)
	told := [api.Words]int64{int64(r.Intn(12)), int64(r.Intn(5))}
	switch r.Intn(12) {
	case 0, 1:
		rank := r.Intn(5) - 2
		got, err := c.Attach(l, rank)
		want, wanted := m.attach(k, l, rank)
		agree(t, "Attach", got, want, err, wanted)
	case 2:
		agree(t, "Detach", 0, 0, c.Detach(id), m.detach(k, id))
	case 3:
		agree(t, "Replace", 0, 0, c.Replace(id, l), m.replace(k, id, l))
	case 4:
		agree(t, "Run", c.Run(told, int64(id)), m.run(t, k, told, int64(id)), nil, nil)
	case 5, 6:
		agree(t, "Round", d.Round(), m.round(t), nil, nil)
	default:
		agree(t, "Event", 0, 0, d.Event(k, told), m.event(k, told))
	}
	m.hold(t, d)
}

// hold wants a Desk to be as the model is.
func (m *model) hold(t *testing.T, d *hook.Desk) {
	t.Helper()
	for k := range 3 {
		state(t, d, k, len(m.waiting[k]), m.left[k])
		c := chain(t, d, k)
		ids := []int{}
		for _, e := range m.chains[k] {
			ids = append(ids, e.id)
			if cells, err := c.Cells(e.id); err != nil || !reflect.DeepEqual(cells, e.cells) {
				t.Fatalf("%d has %v, %v, not %v", e.id, cells, err, e.cells)
			}
		}
		stand(t, c, ids...)
	}
}

// TestAsThePlainModel: whatever is done, a Desk tells what the model tells.
func TestAsThePlainModel(t *testing.T) {
	r := rand.New(rand.NewSource(11))
	programs := bad(t)
	for _, text := range []string{
		ends(0), ends(3), ends(-1), gives(4, 0), gives(5, 6), counts, tellsTime, varied(9), varied(3), spends(30),
		"load r0 [r1+1]; exit",
		"load r0 [r1+1]; jeq r0 2 1; mov r0 0; exit",
	} {
		programs = append(programs, program(t, text), program(t, text))
	}
	for range 150 {
		may := [3]int{1 + r.Intn(60), 1 + r.Intn(60), 1 + r.Intn(60)}
		d, m := newDesk(t, may[0], may[1], may[2]), &model{may: may}
		for range 150 {
			m.one(t, r, d, slices.Clone(programs[r.Intn(len(programs))]))
		}
	}
}
