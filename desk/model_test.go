package desk_test

import (
	"fmt"
	"strings"
	"testing"

	"gatehouse/api"
	"gatehouse/asm"
	"gatehouse/bound"
	"gatehouse/desk"
	"gatehouse/hook"
	"gatehouse/machine"
	"gatehouse/verify"
)

// die is numbers that look drawn, the same each time.
type die uint64

func (d *die) below(n int) int {
	*d = *d*6364136223846793005 + 1442695040888963407
	return int(uint64(*d>>33) % uint64(n))
}

// model asks the layers above, each line by itself, without a text in between.
type model struct{ desk *hook.Desk }

// told is an answer, or the error beside it.
func told(answer string, err error) string {
	if err != nil {
		return fmt.Sprint("error ", int(api.Tell(err)))
	}
	return answer
}

// list is numbers with a text between.
func list[T any](between string, l []T) string {
	var words []string
	for _, n := range l {
		words = append(words, fmt.Sprint(n))
	}
	return strings.Join(words, between)
}

// plain answers a line that has no hook.
func (m *model) plain(word string, n [5]int, program string) string {
	switch word {
	case "new":
		d, err := hook.New([3]int{n[0], n[1], n[2]})
		if err == nil {
			m.desk = d
		}
		return told("new", err)
	case "does":
		b := bound.Does(n[0], bound.Bound{Low: int64(n[1]), High: int64(n[2])}, bound.Bound{Low: int64(n[3]), High: int64(n[4])})
		return fmt.Sprintf("is %d %d", b.Low, b.High)
	case "round":
		var events []string
		for _, d := range m.desk.Round() {
			s := fmt.Sprintf("%d %d %d %d", d.Hook, d.Said.By, d.Said.Num, d.Said.Steps)
			if len(d.Said.Out) > 0 {
				s += " out " + list(" ", d.Said.Out)
			}
			events = append(events, s)
		}
		return "round " + list(", ", events)
	}
	l, err := asm.Read(program)
	if err != nil {
		return told("", err)
	}
	if word == "check" {
		b, err := verify.Verify(l)
		return told(fmt.Sprintf("ends %d %d", b.Low, b.High), err)
	}
	ran, err := machine.Run(l, [api.Words]int64{int64(n[0])}, api.Table{}, 7)
	return told(fmt.Sprintf("ran %d %d out %s", ran.Num, ran.Steps, list(" ", ran.Out)), err)
}

// hooked answers a line that has a hook.
func (m *model) hooked(word string, n [5]int, program string) string {
	if word == "state" {
		return fmt.Sprintf("%d %d", m.desk.Waits(n[0]), m.desk.Left(n[0]))
	}
	if word == "event" {
		return told(word, m.desk.Event(n[0], [api.Words]int64{int64(n[1]), int64(n[2])}))
	}
	c, err := m.desk.Chain(n[0])
	if err != nil {
		return told("", err)
	}
	switch word {
	case "detach":
		return told(word, c.Detach(n[1]))
	case "programs":
		return "programs " + list(" ", c.Programs())
	case "cells":
		cells, err := c.Cells(n[1])
		var rows []string
		for _, row := range cells {
			rows = append(rows, list(" ", row[:]))
		}
		return told("cells "+list(", ", rows), err)
	}
	l, err := asm.Read(program)
	if err != nil {
		return told("", err)
	}
	if word == "replace" {
		return told(word, c.Replace(n[1], l))
	}
	id, err := c.Attach(l, n[1])
	return told(fmt.Sprint(id), err)
}

// drawn is a line, and what the model answers.
func (m *model) drawn(d *die) (line, answer string) {
	programs := []string{counts, gives, strays, "mov r0 0; exit", "mov r0 0; exit", "mov r0 1; exit", "call time; exit", "load r0 [r1+1]; exit", "mov r1 4; call emit; call time; and r0 1; exit", "exit", "mov r0 1", "nonsense", ""}
	words := []string{"attach", "attach", "attach", "event", "event", "event", "event", "round", "round", "replace", "cells", "detach", "programs", "state", "state", "check", "run", "does", "new"}
	word := words[d.below(len(words))]
	if word == "new" && d.below(3) > 0 {
		word = "event"
	}
	program := programs[d.below(len(programs))]
	n := [5]int{d.below(3), d.below(5), d.below(5), d.below(5), d.below(5)}
	switch {
	case word == "does":
		n = [5]int{d.below(15), n[1], n[1] + n[2], -n[3], n[4]}
	case word == "new":
		n = [5]int{1 + d.below(40), d.below(40), 1 + d.below(1000)}
	case d.below(12) == 0:
		n[0] = d.below(9) - 4
	}
	for _, f := range firsts {
		if !strings.HasPrefix(f.line+" ", word+" ") {
			continue
		}
		line = word
		for _, number := range n[:f.numbers] {
			line += strings.Repeat(" ", 1+d.below(2)) + fmt.Sprint(number)
		}
		if f.program {
			line += strings.Repeat(" ", 1+d.below(2)) + program
		}
	}
	switch word {
	case "new", "does", "round", "check", "run":
		return line, m.plain(word, n, program)
	}
	return line, m.hooked(word, n, program)
}

// TestModel: sessions of many lines tell what the layers above tell.
func TestModel(t *testing.T) {
	d := die(11)
	for range 300 {
		first, err := hook.New([3]int{10, 20, 30})
		if err != nil {
			t.Fatal(err)
		}
		m := &model{first}
		var lines, want []string
		for range 1 + d.below(120) {
			line, answer := m.drawn(&d)
			lines = append(lines, line)
			want = append(want, answer)
		}
		text := strings.Join(lines, "\n")
		got := strings.Split(strings.TrimSuffix(desk.Session(text), "\n"), "\n")
		if len(got) != len(want) {
			t.Fatalf("%q: %d lines, not %d", text, len(got), len(want))
		}
		for i := range want {
			if got[i] != want[i] {
				t.Fatalf("%q: line %d, %q: %q, not %q", text, i, lines[i], got[i], want[i])
			}
		}
	}
}
