package bound_test

import (
	"math"
	"testing"

	"gatehouse/bound"
)

const (
	least = math.MinInt64
	most  = math.MaxInt64
)

// of is a bound from one number to another one.
func of(low, high int64) bound.Bound { return bound.Bound{Low: low, High: high} }

// small are all bounds of numbers from -n to n.
func small(n int64) []bound.Bound {
	var l []bound.Bound
	for low := -n; low <= n; low++ {
		for high := low; high <= n; high++ {
			l = append(l, of(low, high))
		}
	}
	return l
}

// edges are the numbers at which something may change.
func edges() []int64 {
	const k = 1 << 31
	return []int64{least, least + 1, -1 << 62, -k - 1, -k, -64, -2, -1, 0, 1, 2, 62, 63, 64, k, k + 1, 1<<62 - 1, 1 << 62, most - 1, most}
}

// wide are all bounds from an edge to an edge.
func wide() []bound.Bound {
	var l []bound.Bound
	for _, low := range edges() {
		for _, high := range edges() {
			if low <= high {
				l = append(l, of(low, high))
			}
		}
	}
	return l
}

// some are numbers that a bound has: all of a small one; else its ends, those beside them, one about the middle, and others at which something may change.
func some(b bound.Bound) []int64 {
	var l []int64
	if b.Low >= -9 && b.High <= 9 {
		for n := b.Low; n <= b.High; n++ {
			l = append(l, n)
		}
		return l
	}
	for _, n := range []int64{-64, -1, 0, 1, 2, 63, 64, b.Low/2 + b.High/2} {
		if b.Low < n && n < b.High {
			l = append(l, n)
		}
	}
	if b.Low < b.High {
		l = append(l, b.Low+1, b.High-1)
	}
	return append(l, b.Low, b.High)
}

// joins holds Join against a bound, both ways round.
func joins(t *testing.T, a, b, want bound.Bound) {
	t.Helper()
	if x, y := bound.Join(a, b), bound.Join(b, a); x != want || y != want {
		t.Errorf("Join of %v and %v is %v, %v, not %v", a, b, x, y, want)
	}
}

// meets holds Meet against a bound, both ways round.
func meets(t *testing.T, a, b, want bound.Bound, ok bool) {
	t.Helper()
	x, xOK := bound.Meet(a, b)
	y, yOK := bound.Meet(b, a)
	if x != want || y != want || xOK != ok || yOK != ok {
		t.Errorf("Meet of %v and %v is %v %v, %v %v, not %v %v", a, b, x, xOK, y, yOK, want, ok)
	}
}

func TestAllAndOne(t *testing.T) {
	if bound.All() != of(least, most) {
		t.Errorf("All is %v", bound.All())
	}
	for _, n := range edges() {
		if bound.One(n) != of(n, n) {
			t.Errorf("One of %d is %v", n, bound.One(n))
		}
		for _, m := range edges() {
			if bound.One(n).Has(m) != (n == m) || !bound.All().Has(m) {
				t.Errorf("%d alone has %d: %v; All has it: %v", n, m, bound.One(n).Has(m), bound.All().Has(m))
			}
		}
	}
}

func TestHas(t *testing.T) {
	for _, b := range small(4) {
		has := map[int64]bool{}
		for n := b.Low; n <= b.High; n++ {
			has[n] = true
		}
		for n := int64(-6); n <= 6; n++ {
			if b.Has(n) != has[n] {
				t.Errorf("%v has %d: %v", b, n, b.Has(n))
			}
		}
		if b.Has(least) || b.Has(most) {
			t.Errorf("%v has the least or the greatest number", b)
		}
	}
	if !of(least, 0).Has(least) || !of(0, most).Has(most) || of(least, most-1).Has(most) || of(least+1, most).Has(least) {
		t.Error("the least or the greatest number is lost, or is where it is not")
	}
}

// hull are the least and the greatest of the numbers of small bounds for which something is so; false: there is none.
func hull(is func(n int64) bool) (b bound.Bound, ok bool) {
	for n := int64(-6); n <= 6; n++ {
		if is(n) {
			if !ok {
				b.Low = n
			}
			b.High, ok = n, true
		}
	}
	return b, ok
}

func TestJoinAndMeetOfSmallBounds(t *testing.T) {
	for _, a := range small(4) {
		for _, b := range small(4) {
			want, _ := hull(func(n int64) bool { return a.Has(n) || b.Has(n) })
			joins(t, a, b, want)
			want, ok := hull(func(n int64) bool { return a.Has(n) && b.Has(n) })
			meets(t, a, b, want, ok)
		}
	}
}

func TestJoinAndMeetOfEdges(t *testing.T) {
	joins(t, bound.One(least), bound.One(most), bound.All())
	joins(t, bound.All(), bound.One(7), bound.All())
	joins(t, bound.One(7), bound.One(7), bound.One(7))
	joins(t, of(least, -5), of(5, 6), of(least, 6))
	meets(t, bound.All(), bound.All(), bound.All(), true)
	meets(t, bound.All(), of(3, 9), of(3, 9), true)
	meets(t, of(least, 0), of(0, most), bound.One(0), true)
	meets(t, of(least, -1), of(0, most), bound.Bound{}, false)
	meets(t, bound.One(least), bound.One(most), bound.Bound{}, false)
	meets(t, bound.One(most), bound.All(), bound.One(most), true)
	meets(t, of(5, 9), of(10, 20), bound.Bound{}, false)
	meets(t, of(5, 10), of(10, 20), bound.One(10), true)
}

// TestNoBoundIsTooMuch: of bounds that have nothing no answer is promised, but that there is one.
func TestNoBoundIsTooMuch(t *testing.T) {
	numbers := []int64{least, -1, 0, 1, 64, most}
	for _, al := range numbers {
		for _, ah := range numbers {
			for _, bl := range numbers {
				for _, bh := range numbers {
					askAll(of(al, ah), of(bl, bh))
				}
			}
		}
	}
}

// askAll asks all that may be asked of two bounds.
func askAll(a, b bound.Bound) {
	a.Has(b.Low)
	bound.Join(a, b)
	bound.Meet(a, b)
	for _, code := range append([]int{math.MinInt, math.MaxInt}, codes(-2, 32)...) {
		bound.Does(code, a, b)
		bound.Narrow(code, a, b)
		bound.Opposite(code)
	}
}

// codes are the codes from one to another one.
func codes(first, last int) []int {
	var l []int
	for code := first; code <= last; code++ {
		l = append(l, code)
	}
	return l
}
