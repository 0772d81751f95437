package asm

import (
	"strconv"
	"strings"

	"gatehouse/api"
)

// calls are the names of what is called; nothing that is called is 0, and no word is empty.
var calls = [...]string{api.Find: "find", api.Time: "time", api.Emit: "emit"}

// tell is the word for a part of a step.
func tell(s api.Step, part rune) string {
	switch part {
	case 'd':
		return registerWord(s.Dst)
	case 's':
		if s.Reg {
			return registerWord(s.Src)
		}
		return numberWord(s.Num)
	case 'o':
		return numberWord(int64(s.Off))
	case 'f':
		return placeWord(s.Src, s.Off)
	case 't':
		return placeWord(s.Dst, s.Off)
	}
	return calls[s.Num]
}

// put puts what a word tells into a part of a step; false, if it tells no such thing.
func put(s *api.Step, part rune, word string) (ok bool) {
	switch part {
	case 'd':
		s.Dst, ok = register(word)
	case 's':
		if s.Src, s.Reg = register(word); s.Reg {
			return true
		}
		s.Num, ok = number(word)
	case 'o':
		s.Off, ok = offset(word)
	case 'f':
		s.Src, s.Off, ok = place(word)
	case 't':
		s.Dst, s.Off, ok = place(word)
	default:
		// A call of another name is a step, too: Check refuses its number.
		s.Num, ok = callOf(word), true
	}
	return ok
}

func numberWord(n int64) string { return strconv.FormatInt(n, 10) }

func registerWord(r int) string { return "r" + strconv.Itoa(r) }

// placeWord is a place as a word: a number below 0 brings its own sign.
func placeWord(r, off int) string {
	sign := "+"
	if off < 0 {
		sign = ""
	}
	return "[" + registerWord(r) + sign + numberWord(int64(off)) + "]"
}

// number reads a number. Each has one way to be written, which shuts out what else ParseInt takes: a +, a nought ahead.
func number(word string) (int64, bool) {
	n, err := strconv.ParseInt(word, 10, 64)
	if err != nil || numberWord(n) != word {
		return 0, false
	}
	return n, true
}

// offset reads how far something leads, or is away.
func offset(word string) (int, bool) {
	n, ok := number(word)
	return int(n), ok
}

// register reads a register.
func register(word string) (int, bool) {
	for r := range api.Registers {
		if word == registerWord(r) {
			return r, true
		}
	}
	return 0, false
}

// place reads a register and how far away from it the place is.
func place(word string) (r, off int, ok bool) {
	inner, opened := strings.CutPrefix(word, "[")
	inner, closed := strings.CutSuffix(inner, "]")
	sign := strings.IndexAny(inner, "+-")
	if !opened || !closed || sign < 0 {
		return 0, 0, false
	}
	r, isRegister := register(inner[:sign])
	off, isNumber := offset(strings.TrimPrefix(inner[sign:], "+"))
	if !isRegister || !isNumber {
		return 0, 0, false
	}
	return r, off, true
}

// callOf is what is called by that name, 0, if there is nothing.
func callOf(name string) int64 {
	for call, n := range calls {
		if n == name {
			return int64(call)
		}
	}
	return 0
}
