package asm

import (
	"strings"

	"gatehouse/api"
	"gatehouse/op"
)

// names are the codes' names; no code is 0, and no word is empty.
var names = [...]string{
	api.Mov: "mov", api.Add: "add", api.Sub: "sub", api.Mul: "mul", api.Div: "div", api.Mod: "mod",
	api.And: "and", api.Or: "or", api.Xor: "xor", api.Lsh: "lsh", api.Rsh: "rsh", api.Arsh: "arsh",
	api.Neg: "neg", api.Jump: "jump",
	api.Jeq: "jeq", api.Jne: "jne", api.Jgt: "jgt", api.Jge: "jge", api.Jlt: "jlt", api.Jle: "jle",
	api.Jsgt: "jsgt", api.Jsge: "jsge", api.Jslt: "jslt", api.Jsle: "jsle",
	api.Load: "load", api.Store: "store", api.Call: "call", api.Exit: "exit",
}

// longest is how many words a step has at most.
const longest = 4

// parts tells which words stand behind a code's name, so that put and tell can't part ways: d is Dst, s a second, o Off, f a place from which (Src), t one to which (Dst), c what is called.
func parts(code int) string {
	switch {
	case api.Mov <= code && code <= api.Arsh:
		return "ds"
	case op.Asks(code):
		return "dso"
	case code == api.Neg:
		return "d"
	case code == api.Jump:
		return "o"
	case code == api.Load:
		return "df"
	case code == api.Store:
		return "ts"
	case code == api.Call:
		return "c"
	}
	return ""
}

// written is a step as text.
func written(s api.Step) string {
	words := []string{names[s.Code]}
	for _, part := range parts(s.Code) {
		words = append(words, tell(s, part))
	}
	return strings.Join(words, " ")
}

// read is the step that a text tells; false, if it tells none.
func read(text string) (api.Step, bool) {
	words := cut(text)
	are := func(n int) bool { return len(words) == n }
	if are(0) {
		return api.Step{}, false
	}
	s := api.Step{Code: codeOf(words[0])}
	behind := parts(s.Code)
	if s.Code == 0 || !are(1+len(behind)) {
		return api.Step{}, false
	}
	for i, part := range behind {
		if !put(&s, part, words[1+i]) {
			return api.Step{}, false
		}
	}
	return s, true
}

// cut are a text's words, or the first of them, if they are too many for a step.
func cut(text string) []string {
	var words []string
	for word := range strings.FieldsFuncSeq(text, blank) {
		words = append(words, word)
		if len(words) > longest {
			break
		}
	}
	return words
}

func blank(r rune) bool { return r == ' ' }

// codeOf is the code of that name, 0, if there is none.
func codeOf(name string) int {
	for code, n := range names {
		if n == name {
			return code
		}
	}
	return 0
}
