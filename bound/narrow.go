package bound

import (
	"gatehouse/api"
	"gatehouse/op"
)

// Opposite is the code that asks for what another one does not.
func Opposite(code int) (_ int) {
	switch code {
	case api.Jeq:
		return api.Jne
	case api.Jne:
		return api.Jeq
	case api.Jgt:
		return api.Jle
	case api.Jge:
		return api.Jlt
	case api.Jlt:
		return api.Jge
	case api.Jle:
		return api.Jgt
	case api.Jsgt:
		return api.Jsle
	case api.Jsge:
		return api.Jslt
	case api.Jslt:
		return api.Jsge
	case api.Jsle:
		return api.Jsgt
	}
	return 0
}

// Narrow is between which numbers both are, if what a code asks is so; false: it can't be.
func Narrow(code int, a, b Bound) (_ Bound, _ Bound, _ bool) {
	switch code {
	case api.Jeq:
		both, ok := Meet(a, b)
		return both, both, ok
	case api.Jne:
		return apart(a, b)
	case api.Jlt, api.Jle, api.Jslt, api.Jsle:
		return below(code, a, b)
	case api.Jgt, api.Jge, api.Jsgt, api.Jsge:
		lower, upper, ok := below(turned(code), b, a)
		return upper, lower, ok
	}
	return a, b, true
}

// turned is the code that asks the same of two numbers the other way round.
func turned(code int) int {
	switch code {
	case api.Jgt:
		return api.Jlt
	case api.Jge:
		return api.Jle
	case api.Jsgt:
		return api.Jslt
	}
	return api.Jsle
}

// apart is what is left of both, if they are not the same.
func apart(a, b Bound) (Bound, Bound, bool) {
	if a == b && a == One(a.Low) {
		return Bound{}, Bound{}, false
	}
	return without(a, b), without(b, a), true
}

// without is a bound without another one, if that is one number alone, and cutting it off leaves a bound.
func without(a, other Bound) Bound {
	cut := func(end int64) bool { return other == One(end) }
	switch {
	case a == One(a.Low):
		return a
	case cut(a.Low):
		a.Low++
	case cut(a.High):
		a.High--
	}
	return a
}

// below is what is left of both, if the first one is below the second (Jlt, Jslt), or not above it (Jle, Jsle).
func below(code int, a, b Bound) (Bound, Bound, bool) {
	if code == api.Jlt || code == api.Jle {
		if b.Low < 0 {
			return a, b, true
		}
		// Without signs all below 0 is above what is from 0 on.
		a.Low = max(a.Low, 0)
	}
	// If it is not so of the two that are furthest apart, it is so of none; if it is, one further in fits.
	if a.Low > a.High || !op.Is(code, a.Low, b.High) {
		return Bound{}, Bound{}, false
	}
	gap := int64(0)
	if code == api.Jlt || code == api.Jslt {
		gap = 1
	}
	a.High = min(a.High, b.High-gap)
	b.Low = max(b.Low, a.Low+gap)
	return a, b, true
}
