package asm_test

import (
	"math/big"
	"math/rand"
	"regexp"
	"slices"
	"strings"
	"testing"

	"gatehouse/api"
	"gatehouse/asm"
	"gatehouse/op"
	"gatehouse/plain"
)

// The forms of words and steps, as 2.1 tells them, and as 2.2 lets them be read.
const (
	number   = `(?:0|-?[1-9][0-9]*)`
	register = `r(?:[0-9]|10)`
	place    = `\[` + register + `(?:\+` + number + `|-[1-9][0-9]*)\]`
	second   = `(?:` + register + `|` + number + `)`
)

var (
	forms = regexp.MustCompile(`^ *(?:` + strings.Join([]string{
		`(?:mov|add|sub|mul|div|mod|and|or|xor|lsh|rsh|arsh) +` + register + ` +` + second,
		`neg +` + register,
		`jump +` + number,
		`j(?:eq|ne|gt|ge|lt|le|sgt|sge|slt|sle) +` + register + ` +` + second + ` +` + number,
		`load +` + register + ` +` + place,
		`store +` + place + ` +` + second,
		`call +[^ ;]+`,
		`exit`,
	}, "|") + `) *$`)
	numbers  = regexp.MustCompile(`-?[0-9]+`)
	anyCalls = regexp.MustCompile(`^ *call `)
)

// isStep says by its form, and by how great its numbers are, whether a text is a step.
func isStep(text string) bool {
	if !forms.MatchString(text) {
		return false
	}
	if anyCalls.MatchString(text) {
		return true
	}
	for _, word := range numbers.FindAllString(text, -1) {
		if n, ok := new(big.Int).SetString(word, 10); !ok || !n.IsInt64() {
			return false
		}
	}
	return true
}

// firstNone is the first one that is no step, -1, if all are.
func firstNone(text string) int {
	return slices.IndexFunc(strings.Split(text, ";"), func(s string) bool { return !isStep(s) })
}

// spoilt is a text with a few bytes changed, put in or left out.
func spoilt(r *rand.Rand, text string) string {
	const bytes = "; 0190r-+[]axmovjeqcallfind\t\xff"
	b := []byte(text)
	for range r.Intn(3) {
		i, c := r.Intn(len(b)), bytes[r.Intn(len(bytes))]
		switch r.Intn(3) {
		case 0:
			b[i] = c
		case 1:
			b = slices.Insert(b, i, c)
		default:
			b = append(slices.Delete(b, i, i+1), ' ')
		}
	}
	return string(b)
}

// drawn is a text of a few steps, some of them with great numbers.
func drawn(r *rand.Rand) string {
	var l []string
	for range r.Intn(4) {
		text := steps[r.Intn(len(steps))].text
		if r.Intn(6) == 0 {
			text = strings.Replace(text, "1", []string{"9223372036854775807", "9223372036854775808", "-9223372036854775808", "10", "11"}[r.Intn(5)], 1)
		}
		l = append(l, text)
	}
	return strings.Join(append(l, "exit"), []string{";", "; ", " ; "}[r.Intn(3)])
}

func TestReadAgainstForms(t *testing.T) {
	r := rand.New(rand.NewSource(5))
	var taken, refused int
	for range 60_000 {
		text := spoilt(r, drawn(r))
		l, err := asm.Read(text)
		if at := firstNone(text); at >= 0 {
			refused++
			wants(t, text, err, api.ErrForm, at)
			continue
		}
		if e, _ := plain.Place(err); e == api.ErrForm {
			t.Errorf("%q: its steps are steps", text)
		}
		if err != nil {
			continue
		}
		taken++
		checkAgain(t, text, l)
	}
	if taken < 10_000 || refused < 10_000 {
		t.Errorf("%d taken, %d refused", taken, refused)
	}
}

// checkAgain writes steps that were read: the text, as it is written, must be there again.
func checkAgain(t *testing.T, text string, l []api.Step) {
	t.Helper()
	if err := op.Check(l); err != nil {
		t.Errorf("%q: %v: %v", text, l, err)
	}
	written, err := asm.Write(l)
	wants(t, text, err, api.OK, -1)
	if written != tidy(text) {
		t.Errorf("%q: written %q", text, written)
	}
	reads(t, written, l...)
}

// tidy is a text that can be read as it is written.
func tidy(text string) string {
	var l []string
	for _, s := range strings.Split(text, ";") {
		l = append(l, strings.ReplaceAll(strings.Join(strings.Fields(s), " "), "+-", "-"))
	}
	return strings.Join(l, "; ")
}

func TestWriteAndReadAgain(t *testing.T) {
	r := rand.New(rand.NewSource(6))
	for range 3000 {
		var l []api.Step
		for range 1 + r.Intn(20) {
			s := steps[r.Intn(len(steps))].step
			if s.Code == api.Load || s.Code == api.Store {
				s.Off = int(r.Uint64() >> r.Intn(64))
			} else if op.Asks(s.Code) && !s.Reg || s.Code <= api.Arsh && !s.Reg {
				s.Num = int64(r.Uint64()) >> r.Intn(64)
			}
			l = append(l, s)
		}
		l = append(l, exit, exit)
		text, err := asm.Write(l)
		wants(t, text, err, api.OK, -1)
		reads(t, text, l...)
	}
}
