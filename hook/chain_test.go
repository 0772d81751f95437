package hook_test

import (
	"errors"
	"math"
	"reflect"
	"slices"
	"strconv"
	"testing"

	"gatehouse/api"
	"gatehouse/asm"
	"gatehouse/hook"
	"gatehouse/plain"
	"gatehouse/verify"
)

// eight is how many programs a Chain has at most.
const eight = 8

// counts is a program that adds 1 to word 0 of cell 0, and ends with 0, in 8 steps.
const counts = "mov r1 0; call find; jeq r0 0 3; load r6 [r0+0]; add r6 1; store [r0+0] r6; mov r0 0; exit"

// program is a program of a text.
func program(t *testing.T, text string) []api.Step {
	t.Helper()
	l, err := asm.Read(text)
	if err != nil {
		e, place := plain.Place(err)
		t.Fatalf("%q: it is no program: error %d at %d", text, e, place)
	}
	return l
}

// ends is a program that ends with a number, in 2 steps.
func ends(n int64) string { return "mov r0 " + strconv.FormatInt(n, 10) + "; exit" }

// gives is a program that gives a number out, and ends with another one, in 4 steps.
func gives(out, n int64) string {
	return "mov r1 " + strconv.FormatInt(out, 10) + "; call emit; " + ends(n)
}

// attach attaches a program that is to be let in.
func attach(t *testing.T, c *hook.Chain, text string, rank int) int {
	t.Helper()
	id, err := c.Attach(program(t, text), rank)
	if err != nil {
		t.Fatalf("%q: %v", text, err)
	}
	return id
}

// full is a Chain of eight programs, 1 to 8, of rank 0.
func full(t *testing.T) *hook.Chain {
	t.Helper()
	c := &hook.Chain{}
	for range eight {
		attach(t, c, ends(0), 0)
	}
	return c
}

// stand wants the programs of a Chain to stand so.
func stand(t *testing.T, c *hook.Chain, want ...int) {
	t.Helper()
	if got := c.Programs(); !slices.Equal(got, want) {
		t.Errorf("they stand as %v, not %v", got, want)
	}
}

// wrong wants an error, at a place (-1: at none).
func wrong(t *testing.T, err error, e api.Errno, place int) {
	t.Helper()
	var at *api.At
	if ge, gp := plain.Place(err); ge != e || gp != place || errors.As(err, &at) != (place >= 0) {
		t.Errorf("error %d at %d, not error %d at %d", ge, gp, e, place)
	}
}

// first is the first word of a program's table.
func first(t *testing.T, c *hook.Chain, id int) int64 {
	t.Helper()
	cells, err := c.Cells(id)
	if err != nil {
		t.Errorf("cells of %d: %v", id, err)
	}
	return cells[0][0]
}

// says wants a Run at time 0, told noughts, to say something.
func says(t *testing.T, c *hook.Chain, want hook.Said) {
	t.Helper()
	same(t, c.Run([api.Words]int64{}, 0), want)
}

// same wants something to be said; an empty list may be nil or not.
func same(t *testing.T, got, want hook.Said) {
	t.Helper()
	if got.By != want.By || got.Num != want.Num || got.Steps != want.Steps || !slices.Equal(got.Out, want.Out) {
		t.Errorf("it says %v, not %v", got, want)
	}
}

// bad are lists of steps that Verify does not let go.
func bad(t *testing.T) [][]api.Step {
	t.Helper()
	exit := api.Step{Code: api.Exit}
	l := [][]api.Step{
		nil,
		slices.Repeat([]api.Step{exit}, api.MaxCode+1),
		{{Code: 99}, exit},
		{{Code: api.Mov}, {Code: api.Mov, Dst: api.Registers}, exit},
		{{Code: api.Mov}},
	}
	for _, text := range []string{
		"exit",
		"mov r0 r1; exit",
		"mov r0 0; mov r0 r3; exit",
		"load r2 [r1+0]; add r1 r2; load r2 [r1+0]; mov r0 3; exit",
		"mov r0 0; load r0 [r1+8]; exit",
		"mov r0 0; mov r2 1; store [r1+0] 1; exit",
	} {
		l = append(l, program(t, text))
	}
	return l
}

// 6.1

func TestAZeroChainHasNoPrograms(t *testing.T) {
	var c hook.Chain
	stand(t, &c)
	says(t, &c, hook.Said{})
	for _, id := range []int{math.MinInt, -1, 0, 1, eight, math.MaxInt} {
		missing(t, &c, id)
	}
	stand(t, &c)
	if id := attach(t, &c, ends(0), 5); id != 1 {
		t.Errorf("the first one's number is %d", id)
	}
}

// missing wants a number to be none of a Chain's.
func missing(t *testing.T, c *hook.Chain, id int) {
	t.Helper()
	wrong(t, c.Detach(id), api.ErrMissing, -1)
	wrong(t, c.Replace(id, program(t, ends(0))), api.ErrMissing, -1)
	cells, err := c.Cells(id)
	wrong(t, err, api.ErrMissing, -1)
	if cells != (api.Table{}) {
		t.Errorf("beside an error the cells are %v", cells)
	}
}

func TestAttachHasVerifysErrors(t *testing.T) {
	for _, l := range bad(t) {
		_, want := verify.Verify(l)
		e, place := plain.Place(want)
		if e == api.OK {
			t.Fatalf("%v is let go", l)
		}
		// Where there is room, and where there is none: the program's own errors are told first.
		for _, c := range []*hook.Chain{{}, full(t)} {
			before := c.Programs()
			id, err := c.Attach(l, 0)
			wrong(t, err, e, place)
			if id != 0 {
				t.Errorf("%v: beside an error the number is %d", l, id)
			}
			stand(t, c, before...)
		}
	}
}

func TestTheEighthAndTheNinth(t *testing.T) {
	var c hook.Chain
	for i := range eight {
		if id := attach(t, &c, ends(0), 0); id != i+1 {
			t.Errorf("the number of program %d is %d", i+1, id)
		}
	}
	for _, rank := range []int{math.MinInt, -1, 0, 1, math.MaxInt} {
		id, err := c.Attach(program(t, ends(9)), rank)
		wrong(t, err, api.ErrFull, -1)
		if id != 0 {
			t.Errorf("beside an error the number is %d", id)
		}
	}
	stand(t, &c, 1, 2, 3, 4, 5, 6, 7, 8)
	missing(t, &c, 9)
	says(t, &c, hook.Said{Steps: 2 * eight})
	if err := c.Detach(3); err != nil {
		t.Error(err)
	}
	if id := attach(t, &c, ends(0), -1); id != 9 {
		t.Errorf("the number behind those that did not come in is %d", id)
	}
	stand(t, &c, 9, 1, 2, 4, 5, 6, 7, 8)
	_, err := c.Attach(program(t, ends(0)), 0)
	wrong(t, err, api.ErrFull, -1)
}

func TestByRank(t *testing.T) {
	for _, x := range []struct {
		ranks []int
		want  []int
	}{
		{[]int{0}, []int{1}},
		{[]int{0, 0, 0}, []int{1, 2, 3}},
		{[]int{1, 2, 3}, []int{1, 2, 3}},
		{[]int{3, 2, 1}, []int{3, 2, 1}},
		{[]int{5, 9, 7}, []int{1, 3, 2}},
		{[]int{5, 9, 5}, []int{1, 3, 2}},
		{[]int{5, 9, 9, 4, 10}, []int{4, 1, 2, 3, 5}},
		{[]int{5, 5, 9, 9, 5, 9, 7}, []int{1, 2, 5, 7, 3, 4, 6}},
		{[]int{0, math.MaxInt, math.MinInt, -1, 0}, []int{3, 4, 1, 5, 2}},
		{[]int{math.MaxInt, math.MinInt, math.MaxInt, math.MinInt}, []int{2, 4, 1, 3}},
	} {
		var c hook.Chain
		var given []int64
		for i, rank := range x.ranks {
			attach(t, &c, gives(int64(i+1), 0), rank)
		}
		for _, id := range x.want {
			given = append(given, int64(id))
		}
		stand(t, &c, x.want...)
		// As they stand they run.
		says(t, &c, hook.Said{Out: given, Steps: 4 * len(given)})
	}
}

// TestRanksStay: of those that stand, also behind a Replace and a Detach.
func TestRanksStay(t *testing.T) {
	var c hook.Chain
	for _, rank := range []int{4, 6, 8} {
		attach(t, &c, ends(0), rank)
	}
	if err := c.Replace(2, program(t, ends(0))); err != nil {
		t.Error(err)
	}
	stand(t, &c, 1, 2, 3)
	attach(t, &c, ends(0), 6)
	attach(t, &c, ends(0), 5)
	stand(t, &c, 1, 5, 2, 4, 3)
	if err := c.Detach(2); err != nil {
		t.Error(err)
	}
	attach(t, &c, ends(0), 7)
	attach(t, &c, ends(0), 4)
	stand(t, &c, 1, 7, 5, 4, 6, 3)
}

func TestNumbersAreNotGivenTwice(t *testing.T) {
	var c hook.Chain
	attach(t, &c, ends(0), 0)
	attach(t, &c, ends(0), 0)
	for want := 3; want < 40; want++ {
		// The one that was let in last goes again, and all that are not let in count for nothing.
		if err := c.Detach(want - 1); err != nil {
			t.Error(err)
		}
		for _, l := range bad(t) {
			c.Attach(l, 0)
		}
		if id := attach(t, &c, ends(0), 40-want); id != want {
			t.Errorf("the number is %d, not %d", id, want)
		}
	}
	c.Detach(1)
	c.Detach(39)
	stand(t, &c)
	if id := attach(t, &c, ends(0), 0); id != 40 {
		t.Errorf("behind all of them the number is %d, not 40", id)
	}
}

func TestDetach(t *testing.T) {
	for gone := 1; gone <= eight; gone++ {
		var c hook.Chain
		var left []int
		var given []int64
		for id := 1; id <= eight; id++ {
			attach(t, &c, gives(int64(id), 0), 0)
			if id != gone {
				left, given = append(left, id), append(given, int64(id))
			}
		}
		if err := c.Detach(gone); err != nil {
			t.Errorf("%d: %v", gone, err)
		}
		stand(t, &c, left...)
		missing(t, &c, gone)
		missing(t, &c, 0)
		says(t, &c, hook.Said{Out: given, Steps: 4 * len(given)})
	}
}

// TestEachKeepsItsTableBehindADetach: those that stand behind one that is gone go on with their own.
func TestEachKeepsItsTableBehindADetach(t *testing.T) {
	var c hook.Chain
	for range eight {
		attach(t, &c, counts, 0)
		says(t, &c, hook.Said{Steps: 8 * len(c.Programs())})
	}
	for _, gone := range []int{4, 1, 8} {
		if err := c.Detach(gone); err != nil {
			t.Error(err)
		}
	}
	stand(t, &c, 2, 3, 5, 6, 7)
	for _, id := range c.Programs() {
		if got := first(t, &c, id); got != int64(eight+1-id) {
			t.Errorf("%d has %d", id, got)
		}
	}
	// A new one takes nothing over from one that was there.
	for _, rank := range []int{-1, 0, 1} {
		if id := attach(t, &c, counts, rank); first(t, &c, id) != 0 {
			t.Errorf("%d has %d at first", id, first(t, &c, id))
		}
	}
}

func TestReplace(t *testing.T) {
	var c hook.Chain
	attach(t, &c, gives(1, 0), 3)
	attach(t, &c, counts, 2)
	attach(t, &c, gives(3, 0), 1)
	stand(t, &c, 3, 2, 1)
	for range 5 {
		says(t, &c, hook.Said{Out: []int64{3, 1}, Steps: 16})
	}
	tells := "mov r1 0; call find; jeq r0 0 4; load r1 [r0+0]; call emit; mov r0 0; exit; mov r0 0; exit"
	if err := c.Replace(2, program(t, tells)); err != nil {
		t.Error(err)
	}
	stand(t, &c, 3, 2, 1)
	if got := first(t, &c, 2); got != 5 {
		t.Errorf("the table has %d, not 5", got)
	}
	says(t, &c, hook.Said{Out: []int64{3, 5, 1}, Steps: 15})
	if err := c.Replace(2, program(t, counts)); err != nil {
		t.Error(err)
	}
	says(t, &c, hook.Said{Out: []int64{3, 1}, Steps: 16})
	if got := first(t, &c, 2); got != 6 {
		t.Errorf("the table has %d, not 6", got)
	}
	if id := attach(t, &c, ends(0), 0); id != 4 {
		t.Errorf("a Replace gives a number: the next one is %d", id)
	}
}

func TestReplaceByAWrongOne(t *testing.T) {
	var c hook.Chain
	attach(t, &c, counts, 0)
	attach(t, &c, gives(7, 2), 0)
	want := hook.Said{By: 2, Num: 2, Out: []int64{7}, Steps: 12}
	says(t, &c, want)
	for i, l := range bad(t) {
		_, verified := verify.Verify(l)
		e, place := plain.Place(verified)
		wrong(t, c.Replace(1, l), e, place)
		wrong(t, c.Replace(2, l), e, place)
		// That it is not there is told ahead of what is wrong with it.
		wrong(t, c.Replace(3, l), api.ErrMissing, -1)
		stand(t, &c, 1, 2)
		says(t, &c, want)
		if got := first(t, &c, 1); got != int64(i+2) {
			t.Errorf("the table has %d, not %d", got, i+2)
		}
	}
}

// TestReplaceWhereThereAreEight: it needs no room.
func TestReplaceWhereThereAreEight(t *testing.T) {
	c := full(t)
	for id := 1; id <= eight; id++ {
		if err := c.Replace(id, program(t, gives(int64(id), 0))); err != nil {
			t.Errorf("%d: %v", id, err)
		}
	}
	says(t, c, hook.Said{Out: []int64{1, 2, 3, 4, 5, 6, 7, 8}, Steps: 4 * eight})
}

// TestListsThatWereHandedInMayBeChanged: also what stands behind them stays as it was.
func TestListsThatWereHandedInMayBeChanged(t *testing.T) {
	var c hook.Chain
	handed := func(text string) (l, whole, before []api.Step) {
		l = program(t, text)
		whole = append(slices.Clone(l), api.Step{Code: 99}, api.Step{Code: 98})
		return whole[:len(l)], whole, slices.Clone(whole)
	}
	a, wholeA, beforeA := handed(gives(7, 0))
	b, wholeB, beforeB := handed(gives(8, 3))
	c.Attach(a, 0)
	attach(t, &c, ends(1), 0)
	c.Replace(2, b)
	want := hook.Said{By: 2, Num: 3, Out: []int64{7, 8}, Steps: 8}
	says(t, &c, want)
	if !slices.Equal(wholeA, beforeA) || !slices.Equal(wholeB, beforeB) {
		t.Errorf("%v, %v: a list that was handed in was written into", wholeA, wholeB)
	}
	for i := range wholeA {
		wholeA[i], wholeB[i] = api.Step{Code: 77}, api.Step{Code: api.Exit}
	}
	says(t, &c, want)
}

func TestCells(t *testing.T) {
	var c hook.Chain
	keeps := "load r7 [r1+0]; mov r6 0; mov r1 3; call find; jeq r0 0 3; load r6 [r0+2]; store [r0+2] r7; store [r0+3] r6; mov r0 0; exit"
	attach(t, &c, keeps, 0)
	attach(t, &c, counts, 0)
	for id := 1; id <= 2; id++ {
		if cells, err := c.Cells(id); err != nil || cells != (api.Table{}) {
			t.Errorf("at first %d has %v, %v", id, cells, err)
		}
	}
	var before int64
	for n := int64(5); n < 9; n++ {
		c.Run([api.Words]int64{n}, 0)
		var want api.Table
		want[3][2], want[3][3] = n, before
		before = n
		if got, err := c.Cells(1); err != nil || got != want {
			t.Errorf("1 has %v, %v, not %v", got, err, want)
		}
		if got, err := c.Cells(2); err != nil || got != (api.Table{{n - 4}}) {
			t.Errorf("2 has %v, %v", got, err)
		}
	}
	missing(t, &c, 0)
	missing(t, &c, 3)
	missing(t, &c, -1)
}

// TestAProgramThatDoesNotRunKeepsItsTable: and so does one that ends with another number than 0, as it left it.
func TestAProgramThatDoesNotRunKeepsItsTable(t *testing.T) {
	var c hook.Chain
	stops := "load r7 [r1+0]; " + counts[:len(counts)-len("mov r0 0; exit")] + "mov r0 r7; exit"
	attach(t, &c, stops, 0)
	attach(t, &c, counts, 0)
	for i, n := range []int64{0, 4, -1, 0, 9} {
		got := c.Run([api.Words]int64{n}, 0)
		want := hook.Said{Steps: 17}
		if n != 0 {
			want = hook.Said{By: 1, Num: n, Steps: 9}
		}
		same(t, got, want)
		if got := first(t, &c, 1); got != int64(i+1) {
			t.Errorf("behind %d runs the first one has %d", i+1, got)
		}
	}
	if got := first(t, &c, 2); got != 2 {
		t.Errorf("the second one has %d, not 2", got)
	}
}

func TestRunToTheFirstThatDoesNotEndWithNought(t *testing.T) {
	for n := 1; n <= eight; n++ {
		for stop := 0; stop <= n; stop++ { // 0: none
			for _, num := range []int64{1, -1, math.MinInt64, math.MaxInt64} {
				var c hook.Chain
				var want hook.Said
				for id := 1; id <= n; id++ {
					end := int64(0)
					if id == stop {
						end = num
					} else if stop > 0 && id > stop {
						end = 5 // it would stop, too, if it were come to
					}
					attach(t, &c, gives(int64(10*id), end), 0)
					if stop == 0 || id <= stop {
						want.Out, want.Steps = append(want.Out, int64(10*id)), want.Steps+4
					}
				}
				if stop > 0 {
					want.By, want.Num = stop, num
				}
				says(t, &c, want)
			}
		}
	}
}

// TestByIsANumberAndNotAPlace: of programs that stand otherwise than they came.
func TestByIsANumberAndNotAPlace(t *testing.T) {
	var c hook.Chain
	attach(t, &c, ends(0), 9)
	attach(t, &c, ends(0), 8)
	attach(t, &c, ends(6), 5)
	attach(t, &c, ends(0), 1)
	says(t, &c, hook.Said{By: 3, Num: 6, Steps: 4})
	c.Detach(3)
	says(t, &c, hook.Said{Steps: 6})
}

func TestAllAreToldTheSame(t *testing.T) {
	var c hook.Chain
	for range 2 {
		attach(t, &c, "load r6 [r1+0]; load r7 [r1+7]; call time; mov r1 r0; call emit; mov r1 r6; call emit; mov r1 r7; call emit; exit", 0)
	}
	told := [api.Words]int64{11, 12, 13, 14, 15, 16, 17, math.MinInt64}
	for _, time := range []int64{0, 1, -5, math.MaxInt64} {
		one := []int64{time, 11, math.MinInt64}
		same(t, c.Run(told, time), hook.Said{Out: append(one, one...), Steps: 20})
	}
}

// TestAllThatIsGivenOutIsTold: each program gives out as many as it may by itself.
func TestAllThatIsGivenOutIsTold(t *testing.T) {
	var c hook.Chain
	var want []int64
	for id := int64(1); id <= eight; id++ {
		text := ""
		for i := range int64(api.MaxOut + 1) {
			text += "mov r1 " + strconv.FormatInt(100*id+i, 10) + "; call emit; "
			if i < api.MaxOut {
				want = append(want, 100*id+i)
			}
		}
		attach(t, &c, text+"exit", 0)
	}
	says(t, &c, hook.Said{Out: want, Steps: eight * (2*api.MaxOut + 3)})
}

// TestChainsHaveTheirOwn: numbers, programs and tables.
func TestChainsHaveTheirOwn(t *testing.T) {
	var a, b hook.Chain
	attach(t, &a, counts, 0)
	attach(t, &b, counts, 0)
	says(t, &a, hook.Said{Steps: 8})
	attach(t, &a, ends(1), 0)
	stand(t, &a, 1, 2)
	stand(t, &b, 1)
	if first(t, &a, 1) != 1 || first(t, &b, 1) != 0 {
		t.Errorf("they have %d, %d", first(t, &a, 1), first(t, &b, 1))
	}
}

// P4

func TestWhatAChainTellsIsFresh(t *testing.T) {
	var c hook.Chain
	attach(t, &c, gives(7, 0), 0)
	attach(t, &c, gives(8, 0), 0)
	ids, said := c.Programs(), c.Run([api.Words]int64{}, 0)
	cells, _ := c.Cells(1)
	ids[0], said.Out[0], cells[0][0] = 5, 5, 5
	_, _ = append(ids, 6), append(said.Out, 6)
	stand(t, &c, 1, 2)
	says(t, &c, hook.Said{Out: []int64{7, 8}, Steps: 8})
	if first(t, &c, 1) != 0 {
		t.Errorf("a table that came out was the Chain's own")
	}
}

// TestAskingChangesNothing: what is asked twice is told twice.
func TestAskingChangesNothing(t *testing.T) {
	var c hook.Chain
	attach(t, &c, counts, 0)
	says(t, &c, hook.Said{Steps: 8})
	for range 3 {
		stand(t, &c, 1)
		missing(t, &c, 2)
		if cells, err := c.Cells(1); err != nil || !reflect.DeepEqual(cells, api.Table{{1}}) {
			t.Errorf("%v, %v", cells, err)
		}
	}
}
