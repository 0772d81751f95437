package desk

import (
	"iter"
	"strconv"
	"strings"

	"gatehouse/api"
	"gatehouse/asm"
)

// line is what a first word asks for: how many numbers stand behind it, whether a program stands behind them, and what is done with these.
type line struct {
	numbers int
	program bool
	does    func(asked) string
}

// asked is what stood behind a first word. The program is a text as yet, as some lines have errors that are told ahead of its own.
type asked struct {
	numbers []int64
	program string
}

// read takes apart the words behind a first one. ErrForm is thrown.
func (l line) read(words []string) asked {
	if len(words) < l.numbers || len(words) > l.numbers && !l.program {
		panic(api.ErrForm)
	}
	var a asked
	for _, word := range words[:l.numbers] {
		a.numbers = append(a.numbers, number(word))
	}
	a.program = strings.Join(words[l.numbers:], " ")
	return a
}

// steps are those of the program. Read's errors are thrown.
func (a asked) steps() []api.Step { return sure(asm.Read(a.program)) }

// cut goes through the lines of a text. One line feed at its end is that of its last line, and begins no other one.
func cut(text string) iter.Seq[string] {
	return strings.SplitSeq(strings.TrimSuffix(text, "\n"), "\n")
}

func blank(r rune) bool { return r == ' ' }

// number reads a number; ErrForm is thrown. Each has one way to be written, which shuts out what else ParseInt takes: a +, a nought ahead.
func number(word string) int64 {
	n, err := strconv.ParseInt(word, 10, 64)
	if err != nil || strconv.FormatInt(n, 10) != word {
		panic(api.ErrForm)
	}
	return n
}

// row is numbers, with a blank between.
func row[N int | int64](l ...N) string {
	var words []string
	for _, n := range l {
		words = append(words, strconv.FormatInt(int64(n), 10))
	}
	return strings.Join(words, " ")
}
