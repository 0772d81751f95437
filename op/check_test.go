package op_test

import (
	"errors"
	"math"
	"slices"
	"strings"
	"testing"

	"gatehouse/api"
	"gatehouse/op"
	"gatehouse/plain"
)

var exit = api.Step{Code: api.Exit}

// has tells, of each code, what its steps have, with a number and with a register as the second one: Dst, Src, Reg, Off, Num by their first letters.
func has(code int) (number, register string) {
	switch code {
	case api.Mov, api.Add, api.Sub, api.Mul, api.Div, api.Mod, api.And, api.Or, api.Xor, api.Lsh, api.Rsh, api.Arsh:
		return "DN", "DSR"
	case api.Jeq, api.Jne, api.Jgt, api.Jge, api.Jlt, api.Jle, api.Jsgt, api.Jsge, api.Jslt, api.Jsle:
		return "DON", "DSRO"
	case api.Neg:
		return "D", ""
	case api.Jump:
		return "O", ""
	case api.Load:
		return "DSO", ""
	case api.Store:
		return "DON", "DSRO"
	case api.Call:
		return "N", ""
	}
	return "", ""
}

// bare is a step that has nothing but what it must.
func bare(code int, reg bool) api.Step {
	s := api.Step{Code: code, Reg: reg}
	if code == api.Call {
		s.Num = api.Time
	}
	return s
}

// with is a step in which the part of that letter is not 0.
func with(s api.Step, part rune) api.Step {
	switch part {
	case 'D':
		s.Dst = 1
	case 'S':
		s.Src = 1
	case 'O':
		s.Off = 1
	case 'N':
		s.Num = 1
	}
	return s
}

// wants holds an error against an Errno and a place (-1: none).
func wants(t *testing.T, what any, err error, e api.Errno, place int) {
	t.Helper()
	if got, at := plain.Place(err); got != e || at != place {
		t.Errorf("%v: error %d at %d, not %d at %d", what, got, at, e, place)
	}
}

// first checks a step that has two others behind it: with which error is it met?
func first(t *testing.T, s api.Step, e api.Errno) {
	t.Helper()
	place := 0
	if e == api.OK {
		place = -1
	}
	wants(t, s, op.Check([]api.Step{s, exit, exit}), e, place)
}

func TestAsksJustJeqToJsle(t *testing.T) {
	asks := []int{api.Jeq, api.Jne, api.Jgt, api.Jge, api.Jlt, api.Jle, api.Jsgt, api.Jsge, api.Jslt, api.Jsle}
	for code := -3; code < 40; code++ {
		if op.Asks(code) != slices.Contains(asks, code) {
			t.Errorf("Asks(%d) is %v", code, op.Asks(code))
		}
	}
	for _, code := range []int{math.MinInt, math.MaxInt} {
		if op.Asks(code) {
			t.Errorf("Asks(%d)", code)
		}
	}
}

func TestStepHasWhatItHas(t *testing.T) {
	for code := api.Mov; code <= api.Exit; code++ {
		number, register := has(code)
		first(t, bare(code, false), api.OK)
		checkParts(t, bare(code, false), number)
		if register == "" {
			first(t, bare(code, true), api.ErrArg)
			continue
		}
		first(t, bare(code, true), api.OK)
		checkParts(t, bare(code, true), register)
	}
}

// checkParts lets each part of a step, one by one, be something else than 0.
func checkParts(t *testing.T, s api.Step, parts string) {
	t.Helper()
	for _, part := range "DSON" {
		e := api.ErrArg
		if strings.ContainsRune(parts, part) {
			e = api.OK
		}
		first(t, with(s, part), e)
	}
}

func TestNumbersBelowNoughtAreNotNought(t *testing.T) {
	first(t, api.Step{Code: api.Neg, Num: -1}, api.ErrArg)
	first(t, api.Step{Code: api.Neg, Num: math.MinInt64}, api.ErrArg)
	first(t, api.Step{Code: api.Mov, Off: -1}, api.ErrArg)
	first(t, api.Step{Code: api.Exit, Off: math.MinInt}, api.ErrArg)
	first(t, api.Step{Code: api.Mov, Reg: true, Num: -1}, api.ErrArg)
}

func TestLoadAndStoreHaveAnyOff(t *testing.T) {
	for _, off := range []int{math.MinInt, -17, -1, 0, 8, 1000, math.MaxInt} {
		first(t, api.Step{Code: api.Load, Src: api.Top, Off: off}, api.OK)
		first(t, api.Step{Code: api.Store, Dst: api.Top, Off: off}, api.OK)
	}
}

func TestHowManySteps(t *testing.T) {
	for _, n := range []int{0, api.MaxCode + 1, api.MaxCode + 2, 100_000} {
		wants(t, n, op.Check(make([]api.Step, n)), api.ErrLimit, -1)
	}
	wants(t, "nil", op.Check(nil), api.ErrLimit, -1)
	for _, n := range []int{1, 2, api.MaxCode - 1, api.MaxCode} {
		wants(t, n, op.Check(slices.Repeat([]api.Step{exit}, n)), api.OK, -1)
	}
	wants(t, "too many good ones", op.Check(slices.Repeat([]api.Step{exit}, api.MaxCode+1)), api.ErrLimit, -1)
}

func TestCodesThatThereAre(t *testing.T) {
	for _, code := range []int{math.MinInt, -1, 0, api.Exit + 1, api.Exit + 2, math.MaxInt} {
		first(t, api.Step{Code: code}, api.ErrForm)
	}
}

func TestRegistersThatThereAre(t *testing.T) {
	for _, r := range []int{math.MinInt, -1, api.Registers, api.Registers + 1, math.MaxInt} {
		for code := api.Mov; code <= api.Exit; code++ {
			s := bare(code, false)
			s.Dst = r
			first(t, s, api.ErrRange)
			s.Dst, s.Src = 0, r
			first(t, s, api.ErrRange)
		}
	}
	for r := range api.Registers {
		first(t, api.Step{Code: api.Jeq, Dst: r, Reg: true, Src: api.Registers - 1 - r}, api.OK)
		first(t, api.Step{Code: api.Store, Dst: r, Reg: true, Src: r}, api.OK)
	}
}

func TestTopIsNotChanged(t *testing.T) {
	for code := api.Mov; code <= api.Exit; code++ {
		s := bare(code, false)
		s.Dst = api.Top
		switch parts, _ := has(code); {
		case code <= api.Neg || code == api.Load:
			first(t, s, api.ErrState)
		case strings.Contains(parts, "D"):
			first(t, s, api.OK)
		default:
			first(t, s, api.ErrArg)
		}
	}
	first(t, api.Step{Code: api.Mov, Dst: api.Top - 1, Reg: true, Src: api.Top}, api.OK)
	first(t, api.Step{Code: api.Load, Dst: api.Top - 1, Src: api.Top}, api.OK)
}

func TestCallsThatThereAre(t *testing.T) {
	for _, n := range []int64{api.Find, api.Time, api.Emit} {
		first(t, api.Step{Code: api.Call, Num: n}, api.OK)
	}
	for _, n := range []int64{math.MinInt64, -1, 0, 4, 1<<32 + 1, math.MaxInt64} {
		first(t, api.Step{Code: api.Call, Num: n}, api.ErrArg)
	}
}

func TestStepsLeadOnAndNotBehindTheEnd(t *testing.T) {
	for code := api.Jump; code <= api.Jsle; code++ {
		for n := 2; n < 6; n++ {
			for i := range n - 1 {
				l := slices.Repeat([]api.Step{exit}, n)
				for off := range n - 1 - i {
					l[i] = api.Step{Code: code, Off: off}
					wants(t, l, op.Check(l), api.OK, -1)
				}
				for _, off := range []int{math.MinInt, -n, -1, n - 1 - i, n - i, math.MaxInt - 1, math.MaxInt} {
					l[i] = api.Step{Code: code, Off: off}
					wants(t, l, op.Check(l), api.ErrOrder, i)
				}
			}
		}
	}
}

func TestLastStepIsExit(t *testing.T) {
	for code := api.Mov; code < api.Exit; code++ {
		e := api.ErrNone
		if code >= api.Jump && code <= api.Jsle { // these lead behind the end first of all
			e = api.ErrOrder
		}
		wants(t, code, op.Check([]api.Step{bare(code, false)}), e, 0)
		wants(t, code, op.Check([]api.Step{exit, bare(code, false)}), e, 1)
		wants(t, code, op.Check([]api.Step{bare(code, false), exit}), api.OK, -1)
	}
	full := slices.Repeat([]api.Step{exit}, api.MaxCode)
	full[api.MaxCode-1] = api.Step{Code: api.Neg}
	wants(t, "full", op.Check(full), api.ErrNone, api.MaxCode-1)
}

func TestOfOneStepTheFirstErrorIsTold(t *testing.T) {
	// Each of these has what is wrong with those below it, too, as far as one step may.
	last := func(s api.Step, e api.Errno) {
		t.Helper()
		wants(t, s, op.Check([]api.Step{s}), e, 0)
	}
	last(api.Step{Code: 29, Dst: 11, Src: -1, Reg: true, Off: -1, Num: 9}, api.ErrForm)
	last(api.Step{Code: api.Mov, Dst: api.Top, Src: 11, Off: -1}, api.ErrRange)
	last(api.Step{Code: api.Jeq, Dst: 11, Src: 1, Off: -1}, api.ErrRange)
	last(api.Step{Code: api.Call, Dst: -1, Num: 9}, api.ErrRange)
	last(api.Step{Code: api.Mov, Dst: api.Top, Src: 1, Off: -1}, api.ErrState)
	last(api.Step{Code: api.Load, Dst: api.Top, Reg: true, Num: 1}, api.ErrState)
	last(api.Step{Code: api.Jeq, Src: 1, Off: -1}, api.ErrArg)
	last(api.Step{Code: api.Jump, Dst: 1, Off: 1}, api.ErrArg)
	last(api.Step{Code: api.Call, Num: 9}, api.ErrArg)
	last(api.Step{Code: api.Jump, Off: -1}, api.ErrOrder)
	last(api.Step{Code: api.Jsle}, api.ErrOrder)
	last(api.Step{Code: api.Mov}, api.ErrNone)
}

func TestOfSeveralStepsTheFirstOneIsTold(t *testing.T) {
	wrong := []struct {
		step api.Step
		err  api.Errno
	}{
		{api.Step{Code: api.Jump, Off: 99}, api.ErrOrder},
		{api.Step{Code: api.Neg, Off: 1}, api.ErrArg},
		{api.Step{Code: api.Neg, Dst: api.Top}, api.ErrState},
		{api.Step{Code: api.Neg, Dst: 11}, api.ErrRange},
		{api.Step{}, api.ErrForm},
	}
	for _, a := range wrong {
		for _, b := range wrong {
			wants(t, a, op.Check([]api.Step{exit, a.step, exit, b.step, bare(api.Mov, false)}), a.err, 1)
		}
		wants(t, a, op.Check([]api.Step{exit, exit, exit, a.step, bare(api.Mov, false)}), a.err, 3)
		wants(t, a, op.Check(slices.Repeat([]api.Step{a.step}, api.MaxCode+1)), api.ErrLimit, -1)
	}
}

func TestErrorsAreAsGiven(t *testing.T) {
	var at *api.At
	if err := op.Check([]api.Step{exit, {}}); !errors.As(err, &at) || at.Err != api.ErrForm || at.Place != 1 {
		t.Errorf("%v has no At of ErrForm at 1", err)
	}
	if err := op.Check(nil); errors.As(err, &at) || !errors.Is(err, api.ErrLimit) {
		t.Errorf("%v is not ErrLimit without an At", err)
	}
	if err := op.Check([]api.Step{exit}); err != nil {
		t.Errorf("%v is not nil", err)
	}
}

func TestCheckLeavesTheListAlone(t *testing.T) {
	whole := []api.Step{{Code: api.Mov, Dst: 3, Num: -7}, exit, {Code: 77, Off: 5}, {Code: 78}}
	was := slices.Clone(whole)
	for n := range len(whole) + 1 {
		a, b := op.Check(whole[:n]), op.Check(whole[:n])
		e, place := plain.Place(a)
		wants(t, n, b, e, place)
	}
	wants(t, "what stands behind the length", op.Check(whole[:2]), api.OK, -1)
	if !slices.Equal(whole, was) {
		t.Errorf("%v was %v", whole, was)
	}
}
