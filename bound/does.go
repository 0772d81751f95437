package bound

import (
	"gatehouse/api"
	"gatehouse/op"
)

// Does is between which numbers it is what a code makes of numbers.
func Does(code int, a, b Bound) (_ Bound) {
	switch code {
	case api.Mov:
		return b
	case api.Add:
		return between([2]end{plus(a.Low, b.Low), plus(a.High, b.High)})
	case api.Sub:
		return between([2]end{minus(a.Low, b.High), minus(a.High, b.Low)})
	case api.Neg:
		return between([2]end{minus(0, a.High), minus(0, a.Low)})
	case api.Mul:
		return product(a, b)
	case api.Div:
		return quotient(a, b)
	case api.Mod:
		return rest(a, b)
	case api.And:
		return common(a, b)
	case api.Or:
		return filled(max(a.Low, b.Low), a, b)
	case api.Xor:
		return filled(0, a, b)
	case api.Lsh, api.Rsh, api.Arsh:
		if b == One(b.Low) {
			return shifted(code, a, b.Low&63)
		}
		return shiftedByAny(code, a)
	}
	return All()
}

// end is an end of a bound; it may not fit in 64 bits.
type end struct {
	n    int64
	fits bool
}

// between is what lies between two ends; All, if one of them does not fit.
func between(ends [2]end) Bound {
	for _, e := range ends {
		if !e.fits {
			return All()
		}
	}
	return Bound{ends[0].n, ends[1].n}
}

// plus adds: what does not fit comes round, to the wrong side of the first number.
func plus(a, b int64) end {
	n := a + b
	return end{n, (n >= a) == (b >= 0)}
}

// minus takes away: what does not fit comes round, as in plus.
func minus(a, b int64) end {
	n := a - b
	return end{n, (n <= a) == (b >= 0)}
}

// doubled is a number times 2^k: it fits, if nothing of it is lost on the way back.
func doubled(a, k int64) end {
	n := a << k
	return end{n, n>>k == a}
}

// bare says whether both are from 0 on, so that it is all one whether numbers have signs.
func bare(a, b Bound) bool { return a.Low >= 0 && b.Low >= 0 }

// product is of ends so small that their products fit.
func product(a, b Bound) Bound {
	small := Bound{-1 << 31, 1 << 31}
	for _, n := range [4]int64{a.Low, a.High, b.Low, b.High} {
		if !small.Has(n) {
			return All()
		}
	}
	made := One(a.Low * b.Low)
	for _, n := range [3]int64{a.Low * b.High, a.High * b.Low, a.High * b.High} {
		made = Join(made, One(n))
	}
	return made
}

// quotient divides by op's Does, as that does not panic, even if b has nothing, and an end of it is 0.
func quotient(a, b Bound) Bound {
	switch {
	case !bare(a, b):
		return All()
	case b.Low > 0:
		return Bound{op.Does(api.Div, a.Low, b.High), op.Does(api.Div, a.High, b.Low)}
	}
	return Bound{0, a.High}
}

// rest is what a division leaves: divided by 0 a number is left as it is.
func rest(a, b Bound) Bound {
	switch {
	case !bare(a, b):
		return All()
	case b.Low > 0:
		return Bound{0, min(a.High, b.High-1)}
	}
	return Bound{0, a.High}
}

// common has no more bits than any of both that is from 0 on.
func common(a, b Bound) Bound {
	switch {
	case bare(a, b):
		return Bound{0, min(a.High, b.High)}
	case a.Low >= 0:
		return Bound{0, a.High}
	case b.Low >= 0:
		return Bound{0, b.High}
	}
	return All()
}

// filled is from a number on up to all bits that one of both may have.
func filled(low int64, a, b Bound) Bound {
	if !bare(a, b) {
		return All()
	}
	return Bound{low, op.Fill(max(a.High, b.High))}
}

// shifted is a bound shifted by k, from 0 to 63.
func shifted(code int, a Bound, k int64) Bound {
	switch {
	case code == api.Lsh:
		return between([2]end{doubled(a.Low, k), doubled(a.High, k)})
	case code == api.Rsh && k > 0 && a.Low < 0:
		// A number below 0 has its highest bit, so it may come to all bits that are left.
		return Bound{0, op.Does(api.Rsh, -1, k)}
	}
	return Bound{op.Does(code, a.Low, k), op.Does(code, a.High, k)}
}

// shiftedByAny is a bound shifted by nobody knows how much: to the right it comes no further than to 0, or, with its sign, to -1.
func shiftedByAny(code int, a Bound) Bound {
	switch {
	case code == api.Lsh:
		return All()
	case a.Low >= 0:
		return Bound{0, a.High}
	case code == api.Rsh:
		return All()
	case a.High < 0:
		return Bound{a.Low, -1}
	}
	return a
}
