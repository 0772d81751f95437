package asm_test

import (
	"math"
	"strconv"
	"strings"
	"testing"

	"gatehouse/api"
)

// noNumbers are words that are no number.
var noNumbers = []string{
	"-0", "00", "01", "007", "-01", "-00", "+0", "+1", "+", "-", "--1", "-+1", "+-1", "1-", "1_0", "0x1", "1e3", "1.0", "1,0",
	"9223372036854775808", "-9223372036854775809", "18446744073709551615", "18446744073709551616", "100000000000000000000000000000",
	"09223372036854775807", "-09223372036854775808", "٣", "1\xff", "\xff", "x", "1x", "r", "a1", "1\t", "\n1",
}

// noRegisters are words that are no register.
var noRegisters = []string{
	"r11", "r12", "r20", "r99", "r100", "r-1", "r-0", "r00", "r01", "r010", "r+1", "r", "rr1", "R1", "r1x", "1r", "r1_", "xr1", "r1r1",
	"r18446744073709551616", "r4294967296", "[r1]", "[r1+0]", "r1+0", "r\xff", "r٣",
}

func TestNumbersOf64Bits(t *testing.T) {
	for _, n := range []int64{math.MinInt64, math.MinInt64 + 1, math.MinInt32 - 1, -10, -1, 0, 1, 9, 10, 100, 1 << 32, math.MaxInt64 - 1, math.MaxInt64} {
		word := strconv.FormatInt(n, 10)
		mov := api.Step{Code: api.Mov, Dst: 1, Num: n}
		reads(t, "mov r1 "+word+"; exit", mov, exit)
		writes(t, "mov r1 "+word+"; exit", mov, exit)
		jeq := api.Step{Code: api.Jeq, Dst: 1, Num: n}
		reads(t, "jeq r1 "+word+" 0; exit", jeq, exit)
		writes(t, "jeq r1 "+word+" 0; exit", jeq, exit)
		if n != 0 { // these lead to where there is nothing: but they are steps
			fails(t, "exit; jump "+word+"; exit", api.ErrOrder, 1)
			fails(t, "exit; jeq r1 0 "+word+"; exit", api.ErrOrder, 1)
		}
	}
}

func TestWordsThatAreNoNumber(t *testing.T) {
	for _, word := range noNumbers {
		fails(t, "exit; mov r1 "+word+"; exit", api.ErrForm, 1)
		fails(t, "exit; jump "+word+"; exit", api.ErrForm, 1)
		fails(t, "exit; jeq r1 "+word+" 0; exit", api.ErrForm, 1)
		fails(t, "exit; jeq r1 0 "+word+"; exit", api.ErrForm, 1)
		fails(t, "exit; store [r1+0] "+word+"; exit", api.ErrForm, 1)
		fails(t, "exit; load r1 [r1+"+word+"]; exit", api.ErrForm, 1)
	}
}

func TestRegistersThatThereAre(t *testing.T) {
	for r := range api.Registers {
		word := "r" + strconv.Itoa(r)
		for text, s := range map[string]api.Step{
			"jne " + word + " 4 0":               {Code: api.Jne, Dst: r, Num: 4},
			"mov r2 " + word:                     {Code: api.Mov, Dst: 2, Reg: true, Src: r},
			"load r2 [" + word + "+0]":           {Code: api.Load, Dst: 2, Src: r},
			"store [" + word + "-1] " + word:     {Code: api.Store, Dst: r, Off: -1, Reg: true, Src: r},
			"jsle " + word + " " + word + " 0":   {Code: api.Jsle, Dst: r, Reg: true, Src: r},
			"store [" + word + "+10] 9223372036": {Code: api.Store, Dst: r, Off: 10, Num: 9223372036},
		} {
			reads(t, text+"; exit", s, exit)
			writes(t, text+"; exit", s, exit)
		}
		if r < api.Top {
			reads(t, "neg "+word+"; exit", api.Step{Code: api.Neg, Dst: r}, exit)
		}
	}
}

func TestWordsThatAreNoRegister(t *testing.T) {
	for _, word := range noRegisters {
		fails(t, "neg "+word+"; exit", api.ErrForm, 0)
		fails(t, "mov "+word+" 0; exit", api.ErrForm, 0)
		fails(t, "mov r0 "+word+"; exit", api.ErrForm, 0)
		fails(t, "jeq "+word+" 0 0; exit", api.ErrForm, 0)
		fails(t, "jeq r0 "+word+" 0; exit", api.ErrForm, 0)
		fails(t, "load "+word+" [r1+0]; exit", api.ErrForm, 0)
		fails(t, "load r1 ["+word+"+0]; exit", api.ErrForm, 0)
		fails(t, "store ["+word+"+0] 0; exit", api.ErrForm, 0)
		fails(t, "store [r1+0] "+word+"; exit", api.ErrForm, 0)
	}
	for _, number := range []string{"0", "1", "-1"} {
		fails(t, "neg "+number+"; exit", api.ErrForm, 0)
		fails(t, "mov "+number+" 0; exit", api.ErrForm, 0)
		fails(t, "load "+number+" [r1+0]; exit", api.ErrForm, 0)
	}
	fails(t, "jump r1; exit", api.ErrForm, 0)
	fails(t, "jeq r1 0 r1; exit", api.ErrForm, 0)
}

func TestPlaces(t *testing.T) {
	for _, off := range []int{math.MinInt64, -17, -10, -1, 0, 1, 10, 255, math.MaxInt64} {
		word := strconv.Itoa(off)
		plus := "[r10+" + word + "]"
		load, store := api.Step{Code: api.Load, Dst: 2, Src: 10, Off: off}, api.Step{Code: api.Store, Dst: 10, Off: off, Num: 7}
		reads(t, "load r2 "+plus+"; store "+plus+" 7; exit", load, store, exit)
		written := plus
		if off < 0 {
			written = "[r10" + word + "]"
		}
		reads(t, "load r2 "+written+"; store "+written+" 7; exit", load, store, exit)
		writes(t, "load r2 "+written+"; store "+written+" 7; exit", load, store, exit)
	}
}

func TestWordsThatAreNoPlace(t *testing.T) {
	words := []string{
		"[r1]", "[r1+]", "[r1-]", "[r10]", "[r15]", "[+1]", "[-1]", "[1]", "[1+1]", "[r1+r1]", "[r1 +1]", "[r1+ 1]", "[ r1+1]", "[r1+1 ]",
		"r1+1", "[r1+1", "r1+1]", "[[r1+1]", "[r1+1]]", "[r1+1][r1+1]", "(r1+1)", "[", "]", "[]", "][", "+", "[+]", "[r1++1]", "[r1-+1]", "[r1--1]",
		"[r1+--1]", "[r1+-+1]", "[r1-0]", "[r1+-0]", "[r1-01]", "[r1*1]", "[r1=1]", "[r1+1]x", "x[r1+1]", "1", "r1", "[r1+1+1]", "[r1+1-1]", "[R1+1]",
		"[r1-9223372036854775809]", "[r1+9223372036854775808]", "[r1+-9223372036854775809]", "[\xff+1]", "[r1+\xff]",
	}
	for _, word := range words {
		fails(t, "load r0 "+word+"; exit", api.ErrForm, 0)
		fails(t, "store "+word+" 0; exit", api.ErrForm, 0)
		fails(t, "store "+word+" r0; exit", api.ErrForm, 0)
	}
	fails(t, "mov r0 [r1+0]; exit", api.ErrForm, 0)
	fails(t, "mov [r1+0] r0; exit", api.ErrForm, 0)
	fails(t, "store [r1+0] [r1+0]; exit", api.ErrForm, 0)
	fails(t, "load [r1+0] r0; exit", api.ErrForm, 0)
	fails(t, "store r0 [r1+0]; exit", api.ErrForm, 0)
}

func TestTooFewAndTooManyWords(t *testing.T) {
	for _, s := range steps {
		words := strings.Split(s.text, " ")
		for n := range words {
			fails(t, "exit; "+strings.Join(words[:n], " ")+"; exit", api.ErrForm, 1)
			fails(t, "exit; "+strings.Join(words[n+1:], " ")+"; exit", api.ErrForm, 1)
		}
		for _, more := range []string{"0", "r0", "exit", "x", "[r0+0]", "r0 0", strings.Repeat("r0 ", 100)} {
			fails(t, "exit; "+s.text+" "+more+"; exit; exit", api.ErrForm, 1)
			fails(t, "exit; "+more+" "+s.text+"; exit; exit", api.ErrForm, 1)
		}
	}
}

func TestNamesThatThereAreNot(t *testing.T) {
	for _, s := range steps {
		name, rest, _ := strings.Cut(s.text, " ")
		for _, other := range []string{strings.ToUpper(name), strings.ToUpper(name[:1]) + name[1:], name[1:], name[:len(name)-1], name + "s", "x" + name, name + "\t", "\n" + name, name + "\xff", name + ",", "28", "1", "", "nop", "mov\x00", name + "\u00a0"} {
			if other == "or" || other == "xor" || other == "rsh" { // xor without its x, or with one, arsh without its a
				continue
			}
			fails(t, "exit; "+other+" "+rest+"; exit; exit", api.ErrForm, 1)
		}
	}
}

func TestBlanks(t *testing.T) {
	mov, load := api.Step{Code: api.Mov, Dst: 1, Num: 5}, api.Step{Code: api.Load, Dst: 2, Src: 1, Off: -3}
	for _, text := range []string{
		"mov r1 5;load r2 [r1-3];exit",
		"mov r1 5; load r2 [r1-3]; exit",
		" mov r1 5 ; load r2 [r1-3] ; exit ",
		"   mov   r1  5   ;   load  r2    [r1-3]   ;   exit   ",
		"mov r1 5 ;load r2 [r1+-3] ;exit ",
	} {
		reads(t, text, mov, load, exit)
	}
	reads(t, "exit", exit)
	reads(t, "  exit  ", exit)
	for _, text := range []string{"movr1 5", "mov r15", "m ov r1 5", "mov r 1 5", "mov r1 - 5", "ex it", "mov\tr1\t5", "mov r1\n5", "\texit", "exit\n", "exit\r", "exit\u00a0", "\u2003exit", "mov,r1,5"} {
		fails(t, text+"; exit", api.ErrForm, 0)
		fails(t, "exit;"+text, api.ErrForm, 1)
	}
}

func TestNothingBetween(t *testing.T) {
	for _, text := range []string{"", " ", "    ", ";", " ; ", ";;", ";exit", " ; exit"} {
		fails(t, text, api.ErrForm, 0)
	}
	for _, text := range []string{"exit;", "exit; ", "exit;;exit", "exit; ; exit", "exit;;", "exit;;x"} {
		fails(t, text, api.ErrForm, 1)
	}
	fails(t, "exit; exit; exit;", api.ErrForm, 3)
	fails(t, "exit, exit", api.ErrForm, 0)
	fails(t, "exit: exit", api.ErrForm, 0)
}
