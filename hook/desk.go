package hook

import "gatehouse/api"

const (
	mostEvents = 20   // that wait at a hook
	mostMay    = 1000 // that a hook may spend each round
)

// gate is one hook: its programs, the events that wait for them, what it may spend each round, and what is left of it.
type gate struct {
	chain     Chain
	events    [mostEvents][api.Words]int64 // as they wait, so many of them
	waits     int
	may, left int
}

// Desk has three hooks, each with a chain, events that wait, what it may spend each round, and what is left of it.
type Desk struct {
	gates [3]gate
	ran   int64 // how many events went through, which is the time
}

// Done is an event that went through: of which hook, and what came of it.
type Done struct {
	Hook int
	Said Said
}

// New is a desk; each hook may spend so many steps each round. ErrRange: one is not from 1 to 1000.
func New(may [3]int) (_ *Desk, _ error) {
	d := &Desk{}
	for k, n := range may {
		if n < 1 || n > mostMay {
			return nil, api.ErrRange
		}
		d.gates[k].may = n
	}
	return d, nil
}

// gate is a hook. ErrRange: there is no such one.
func (d *Desk) gate(k int) (*gate, error) {
	if k < 0 || k >= len(d.gates) {
		return nil, api.ErrRange
	}
	return &d.gates[k], nil
}

// Chain is a hook's. ErrRange.
func (d *Desk) Chain(k int) (_ *Chain, _ error) {
	g, err := d.gate(k)
	if err != nil {
		return nil, err
	}
	return &g.chain, nil
}

// Event lets an event wait. ErrRange: there is no such hook; ErrFull: twenty wait there.
func (d *Desk) Event(k int, told [api.Words]int64) (_ error) {
	g, err := d.gate(k)
	if err != nil {
		return err
	}
	if g.waits == mostEvents {
		return api.ErrFull
	}
	g.events[g.waits] = told
	g.waits++
	return nil
}

// next takes out the event that has waited longest; there is one.
func (g *gate) next() [api.Words]int64 {
	told := g.events[0]
	copy(g.events[:], g.events[1:g.waits])
	g.waits--
	g.events[g.waits] = [api.Words]int64{}
	return told
}

// Round lets each hook in turn spend what it may: it may go into debt by its last event, which it pays in later rounds; a hook where nothing waits saves nothing. The time goes on by one behind each event.
func (d *Desk) Round() (_ []Done) {
	var done []Done
	for k := range d.gates {
		g := &d.gates[k]
		g.left += g.may
		for g.waits > 0 && g.left > 0 {
			said := g.chain.Run(g.next(), d.ran)
			d.ran++
			// One more than its steps, so that an event that no program is there for is not free.
			g.left -= said.Steps + 1
			done = append(done, Done{Hook: k, Said: said})
		}
		// What is owed stays owed; what is saved would let a hook spend more than it may later on.
		if g.waits == 0 {
			g.left = min(g.left, 0)
		}
	}
	return done
}

// Waits is how many events wait (-1: there is no such hook); Left what is left of what a hook may spend (0 likewise).
func (d *Desk) Waits(k int) (_ int) {
	g, err := d.gate(k)
	if err != nil {
		return -1
	}
	return g.waits
}

// Left is what is left of what a hook may spend (below 0: what it owes; 0: there is no such hook).
func (d *Desk) Left(k int) (_ int) {
	g, err := d.gate(k)
	if err != nil {
		return 0
	}
	return g.left
}
