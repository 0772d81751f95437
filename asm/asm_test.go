package asm_test

import (
	"slices"
	"strconv"
	"strings"
	"testing"

	"gatehouse/api"
	"gatehouse/asm"
	"gatehouse/op"
	"gatehouse/plain"
)

var exit = api.Step{Code: api.Exit}

// steps are steps of every code, with the texts that tell them.
var steps = []struct {
	step api.Step
	text string
}{
	{api.Step{Code: api.Mov, Dst: 0, Num: 5}, "mov r0 5"},
	{api.Step{Code: api.Mov, Dst: 9, Reg: true, Src: 10}, "mov r9 r10"},
	{api.Step{Code: api.Add, Dst: 1, Num: -1}, "add r1 -1"},
	{api.Step{Code: api.Add, Dst: 1, Reg: true, Src: 0}, "add r1 r0"},
	{api.Step{Code: api.Sub, Dst: 2, Num: 0}, "sub r2 0"},
	{api.Step{Code: api.Mul, Dst: 3, Num: 10}, "mul r3 10"},
	{api.Step{Code: api.Div, Dst: 4, Reg: true, Src: 4}, "div r4 r4"},
	{api.Step{Code: api.Mod, Dst: 5, Num: 7}, "mod r5 7"},
	{api.Step{Code: api.And, Dst: 6, Num: 255}, "and r6 255"},
	{api.Step{Code: api.Or, Dst: 7, Reg: true, Src: 8}, "or r7 r8"},
	{api.Step{Code: api.Xor, Dst: 8, Num: -100}, "xor r8 -100"},
	{api.Step{Code: api.Lsh, Dst: 9, Num: 63}, "lsh r9 63"},
	{api.Step{Code: api.Rsh, Dst: 0, Num: 1}, "rsh r0 1"},
	{api.Step{Code: api.Arsh, Dst: 0, Reg: true, Src: 2}, "arsh r0 r2"},
	{api.Step{Code: api.Neg, Dst: 3}, "neg r3"},
	{api.Step{Code: api.Jump, Off: 1}, "jump 1"},
	{api.Step{Code: api.Jeq, Dst: 0, Num: 7, Off: 1}, "jeq r0 7 1"},
	{api.Step{Code: api.Jeq, Dst: 10, Reg: true, Src: 10}, "jeq r10 r10 0"},
	{api.Step{Code: api.Jne, Dst: 1, Num: -7}, "jne r1 -7 0"},
	{api.Step{Code: api.Jgt, Dst: 2, Num: 0, Off: 1}, "jgt r2 0 1"},
	{api.Step{Code: api.Jge, Dst: 3, Reg: true, Src: 1, Off: 1}, "jge r3 r1 1"},
	{api.Step{Code: api.Jlt, Dst: 4, Num: 12}, "jlt r4 12 0"},
	{api.Step{Code: api.Jle, Dst: 5, Num: 13}, "jle r5 13 0"},
	{api.Step{Code: api.Jsgt, Dst: 6, Num: 14}, "jsgt r6 14 0"},
	{api.Step{Code: api.Jsge, Dst: 7, Num: 15}, "jsge r7 15 0"},
	{api.Step{Code: api.Jslt, Dst: 8, Num: 16}, "jslt r8 16 0"},
	{api.Step{Code: api.Jsle, Dst: 9, Reg: true, Src: 3, Off: 1}, "jsle r9 r3 1"},
	{api.Step{Code: api.Load, Dst: 0, Src: 1, Off: 2}, "load r0 [r1+2]"},
	{api.Step{Code: api.Load, Dst: 2, Src: 10, Off: -16}, "load r2 [r10-16]"},
	{api.Step{Code: api.Load, Dst: 2, Src: 0}, "load r2 [r0+0]"},
	{api.Step{Code: api.Store, Dst: 10, Off: -1, Num: -9}, "store [r10-1] -9"},
	{api.Step{Code: api.Store, Dst: 0, Off: 3, Reg: true, Src: 6}, "store [r0+3] r6"},
	{api.Step{Code: api.Call, Num: api.Find}, "call find"},
	{api.Step{Code: api.Call, Num: api.Time}, "call time"},
	{api.Step{Code: api.Call, Num: api.Emit}, "call emit"},
	{api.Step{Code: api.Exit}, "exit"},
}

// wants holds an error against an Errno and a place (-1: none).
func wants(t *testing.T, what any, err error, e api.Errno, place int) {
	t.Helper()
	if got, at := plain.Place(err); got != e || at != place {
		t.Errorf("%q: error %d at %d, not %d at %d", what, got, at, e, place)
	}
}

// reads wants a text to tell just these steps.
func reads(t *testing.T, text string, l ...api.Step) {
	t.Helper()
	got, err := asm.Read(text)
	wants(t, text, err, api.OK, -1)
	if !slices.Equal(got, l) {
		t.Errorf("%q: %v, not %v", text, got, l)
	}
}

// fails wants a text to be refused, with no list beside the error.
func fails(t *testing.T, text string, e api.Errno, place int) {
	t.Helper()
	got, err := asm.Read(text)
	wants(t, text, err, e, place)
	if got != nil {
		t.Errorf("%q: %v beside an error", text, got)
	}
}

// writes wants steps to be told by just this text.
func writes(t *testing.T, text string, l ...api.Step) {
	t.Helper()
	got, err := asm.Write(l)
	wants(t, text, err, api.OK, -1)
	if got != text {
		t.Errorf("%v: %q, not %q", l, got, text)
	}
}

func TestStepsOfEveryCode(t *testing.T) {
	seen := map[int]bool{}
	for _, s := range steps {
		seen[s.step.Code] = true
		writes(t, s.text+"; exit; exit", s.step, exit, exit)
		reads(t, s.text+"; exit; exit", s.step, exit, exit)
	}
	if len(seen) != api.Exit {
		t.Errorf("steps of %d codes", len(seen))
	}
}

func TestWholeProgram(t *testing.T) {
	var l []api.Step
	var texts []string
	for _, s := range steps {
		l, texts = append(l, s.step), append(texts, s.text)
	}
	writes(t, strings.Join(texts, "; "), l...)
	reads(t, strings.Join(texts, "; "), l...)
	writes(t, "load r0 [r1+2]; jeq r0 7 1; mov r0 -3; exit", steps[27].step, steps[16].step, api.Step{Code: api.Mov, Num: -3}, exit)
}

func TestWriteHasChecksErrors(t *testing.T) {
	for _, l := range [][]api.Step{
		nil,
		{},
		slices.Repeat([]api.Step{exit}, api.MaxCode+1),
		{exit, {}, exit},
		{exit, {Code: api.Exit + 1}, exit},
		{{Code: -1}},
		{{Code: api.Neg, Dst: api.Registers}, exit},
		{{Code: api.Neg, Dst: -1}, exit},
		{{Code: api.Neg, Dst: api.Top}, exit},
		{exit, {Code: api.Exit, Num: 1}},
		{{Code: api.Call}, exit},
		{{Code: api.Call, Num: 4}, exit},
		{{Code: api.Call, Num: -1}, exit},
		{{Code: api.Jump, Off: -1}, exit},
		{{Code: api.Jump, Off: 1}, exit},
		{exit, {Code: api.Mov}},
	} {
		e, place := plain.Place(op.Check(l))
		if e == api.OK {
			t.Fatalf("%v: Check takes it", l)
		}
		text, err := asm.Write(l)
		wants(t, strconv.Itoa(len(l)), err, e, place)
		if text != "" {
			t.Errorf("%v: %q beside an error", l, text)
		}
	}
}

func TestReadHasChecksErrors(t *testing.T) {
	fails(t, "jump -1; exit", api.ErrOrder, 0)
	fails(t, "exit; jump 1; exit", api.ErrOrder, 1)
	fails(t, "jeq r0 0 9223372036854775807; exit", api.ErrOrder, 0)
	fails(t, "exit; mov r10 0; exit", api.ErrState, 1)
	fails(t, "load r10 [r1+0]; exit", api.ErrState, 0)
	fails(t, "exit; exit; neg r0", api.ErrNone, 2)
	fails(t, "jump 0", api.ErrOrder, 0)
	fails(t, strings.Repeat("exit;", api.MaxCode)+"exit", api.ErrLimit, -1)
	fails(t, strings.Repeat("jump -1;", 3*api.MaxCode)+"neg r10", api.ErrLimit, -1)
	reads(t, strings.Repeat("exit;", api.MaxCode-1)+"exit", slices.Repeat([]api.Step{exit}, api.MaxCode)...)
}

func TestFormIsToldAheadOfCheck(t *testing.T) {
	for _, none := range []string{"", " ", "x", "mov r0", "mov r11 0", "exit exit", "call", "neg 0", "jump 9223372036854775808"} {
		fails(t, "mov r10 0; jump -1;"+none+"; exit", api.ErrForm, 2)
		fails(t, none+"; mov r10 0; jump -1; exit", api.ErrForm, 0)
		fails(t, "exit;"+none, api.ErrForm, 1)
		fails(t, "exit;"+none+";exit;x", api.ErrForm, 1)
		fails(t, "call x;"+none+"; exit", api.ErrForm, 1)
		fails(t, none+"; call x; exit", api.ErrForm, 0)
		fails(t, strings.Repeat("exit;", 2*api.MaxCode)+none, api.ErrForm, 2*api.MaxCode)
	}
}

func TestCallOfAnotherName(t *testing.T) {
	for _, name := range []string{"x", "Find", "FIND", "fin", "finds", "find,", "1", "0", "-1", "r0", "[r0+0]", "call", "exit", "mov", "\xff", "\t", "é"} {
		fails(t, "exit; call "+name+"; exit", api.ErrArg, 1)
		fails(t, "call "+name, api.ErrArg, 0)
		fails(t, "jump -1; call "+name+"; exit", api.ErrOrder, 0)
		fails(t, "call "+name+"; jump -1; exit", api.ErrArg, 0)
		fails(t, "call "+name+" x; exit", api.ErrForm, 0)
		fails(t, "call find "+name+"; exit", api.ErrForm, 0)
		fails(t, strings.Repeat("call "+name+";", api.MaxCode)+"exit", api.ErrLimit, -1)
	}
}

func TestListsAreLeftAlone(t *testing.T) {
	whole := []api.Step{{Code: api.Mov, Dst: 3, Num: -7}, exit, {Code: 77, Off: 5}}
	was := slices.Clone(whole)
	writes(t, "mov r3 -7; exit", whole[:2]...)
	writes(t, "mov r3 -7; exit", whole[:2]...)
	asm.Write(whole)
	if !slices.Equal(whole, was) {
		t.Errorf("%v was %v", whole, was)
	}
}

func TestListsAreTheCallers(t *testing.T) {
	const text = "mov r3 -7; exit"
	a, _ := asm.Read(text)
	b, _ := asm.Read(text)
	clear(a)
	reads(t, text, b...)
	reads(t, text, api.Step{Code: api.Mov, Dst: 3, Num: -7}, exit)
}
