package desk

import (
	"strings"

	"gatehouse/api"
	"gatehouse/bound"
	"gatehouse/hook"
	"gatehouse/machine"
	"gatehouse/verify"
)

const (
	helpLine = "attach cells check detach does event help new programs replace round run state"
	runTime  = 7 // at which a program runs that no hook has
)

// session is what the lines of a text share: the Desk that they ask.
type session struct{ desk *hook.Desk }

// begin is a session at its first line.
func begin() *session {
	s := &session{}
	s.renew(asked{numbers: []int64{10, 20, 30}})
	return s
}

// lines are all lines that there are, by their first words.
func (s *session) lines() map[string]line {
	return map[string]line{
		"attach":   {2, true, s.attach},
		"cells":    {2, false, s.cells},
		"check":    {0, true, s.check},
		"detach":   {2, false, s.detach},
		"does":     {5, false, s.does},
		"event":    {3, false, s.event},
		"help":     {0, false, s.help},
		"new":      {3, false, s.renew},
		"programs": {1, false, s.programs},
		"replace":  {2, true, s.replace},
		"round":    {0, false, s.round},
		"run":      {1, true, s.run},
		"state":    {1, false, s.state},
	}
}

// chain is that of the hook that stands first behind the word. ErrRange is thrown.
func (s *session) chain(a asked) *hook.Chain {
	return sure(s.desk.Chain(int(a.numbers[0])))
}

// renew takes another Desk; one that is refused is thrown ahead of that, so the old one stays.
func (s *session) renew(a asked) string {
	s.desk = sure(hook.New([3]int{int(a.numbers[0]), int(a.numbers[1]), int(a.numbers[2])}))
	return "new"
}

func (s *session) check(a asked) string {
	ends := sure(verify.Verify(a.steps()))
	return "ends " + row(ends.Low, ends.High)
}

func (s *session) run(a asked) string {
	ran := sure(machine.Run(a.steps(), [api.Words]int64{a.numbers[0]}, api.Table{}, runTime))
	return "ran " + row(ran.Num, int64(ran.Steps)) + " out " + row(ran.Out...)
}

func (s *session) does(a asked) string {
	n := a.numbers
	made := bound.Does(int(n[0]), bound.Bound{Low: n[1], High: n[2]}, bound.Bound{Low: n[3], High: n[4]})
	return "is " + row(made.Low, made.High)
}

// attach, as replace, asks for the hook first, as that is refused ahead of the program.
func (s *session) attach(a asked) string {
	chain := s.chain(a)
	return row(sure(chain.Attach(a.steps(), int(a.numbers[1]))))
}

func (s *session) replace(a asked) string {
	chain := s.chain(a)
	must(chain.Replace(int(a.numbers[1]), a.steps()))
	return "replace"
}

func (s *session) detach(a asked) string {
	must(s.chain(a).Detach(int(a.numbers[1])))
	return "detach"
}

func (s *session) event(a asked) string {
	must(s.desk.Event(int(a.numbers[0]), [api.Words]int64{a.numbers[1], a.numbers[2]}))
	return "event"
}

func (s *session) programs(a asked) string {
	return "programs " + row(s.chain(a).Programs()...)
}

func (s *session) cells(a asked) string {
	var cells []string
	for _, words := range sure(s.chain(a).Cells(int(a.numbers[1]))) {
		cells = append(cells, row(words[:]...))
	}
	return "cells " + strings.Join(cells, ", ")
}

func (s *session) round(asked) string {
	var events []string
	for _, done := range s.desk.Round() {
		events = append(events, event(done))
	}
	return "round " + strings.Join(events, ", ")
}

// event is what came of an event, as text.
func event(d hook.Done) string {
	text := row(int64(d.Hook), int64(d.Said.By), d.Said.Num, int64(d.Said.Steps))
	if len(d.Said.Out) > 0 {
		text += " out " + row(d.Said.Out...)
	}
	return text
}

func (s *session) state(a asked) string {
	k := int(a.numbers[0])
	return row(s.desk.Waits(k), s.desk.Left(k))
}

func (s *session) help(asked) string { return helpLine }
