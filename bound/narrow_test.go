package bound_test

import (
	"math"
	"testing"

	"gatehouse/api"
	"gatehouse/bound"
	"gatehouse/op"
)

// narrows holds Narrow against what is left of both.
func narrows(t *testing.T, code int, a, b, wantA, wantB bound.Bound) {
	t.Helper()
	if x, y, ok := bound.Narrow(code, a, b); x != wantA || y != wantB || !ok {
		t.Errorf("Narrow(%d, %v, %v) is %v, %v, %v, not %v, %v", code, a, b, x, y, ok, wantA, wantB)
	}
}

// cannot holds Narrow against false, beside which nothing is told.
func cannot(t *testing.T, code int, a, b bound.Bound) {
	t.Helper()
	none := bound.Bound{}
	if x, y, ok := bound.Narrow(code, a, b); x != none || y != none || ok {
		t.Errorf("Narrow(%d, %v, %v) is %v, %v, %v: it can't be", code, a, b, x, y, ok)
	}
}

// stays holds Narrow against both as they are.
func stays(t *testing.T, code int, a, b bound.Bound) {
	t.Helper()
	narrows(t, code, a, b, a, b)
}

// narrowsBothWays holds a code that asks whether a number is below another one, and the one that asks it the other way round, against what is left.
func narrowsBothWays(t *testing.T, below, above int, a, b, wantA, wantB bound.Bound) {
	t.Helper()
	narrows(t, below, a, b, wantA, wantB)
	narrows(t, above, b, a, wantB, wantA)
}

// cannotBothWays holds both codes against false.
func cannotBothWays(t *testing.T, below, above int, a, b bound.Bound) {
	t.Helper()
	cannot(t, below, a, b)
	cannot(t, above, b, a)
}

func TestOpposite(t *testing.T) {
	pairs := [][2]int{{api.Jeq, api.Jne}, {api.Jgt, api.Jle}, {api.Jge, api.Jlt}, {api.Jsgt, api.Jsle}, {api.Jsge, api.Jslt}}
	for _, p := range pairs {
		if bound.Opposite(p[0]) != p[1] || bound.Opposite(p[1]) != p[0] {
			t.Errorf("Opposite of %d is %d, of %d %d", p[0], bound.Opposite(p[0]), p[1], bound.Opposite(p[1]))
		}
	}
	for code := api.Jeq; code <= api.Jsle; code++ {
		for _, x := range edges() {
			for _, y := range edges() {
				if op.Is(code, x, y) == op.Is(bound.Opposite(code), x, y) {
					t.Errorf("%d and its opposite ask the same of %d and %d", code, x, y)
				}
			}
		}
	}
}

// TestWhatIsSoIsLeft: if what a code asks is so of two numbers, they are in what is left.
func TestWhatIsSoIsLeft(t *testing.T) {
	for code := api.Jeq - 2; code <= api.Jsle+2; code++ {
		for _, l := range [][]bound.Bound{small(4), wide()} {
			for _, a := range l {
				for _, b := range l {
					leaves(t, code, a, b)
				}
			}
		}
	}
}

// leaves holds Narrow against numbers that two bounds have (of small ones, all of them); what is left is no more than there was.
func leaves(t *testing.T, code int, a, b bound.Bound) {
	left, right, ok := bound.Narrow(code, a, b)
	for _, x := range some(a) {
		for _, y := range some(b) {
			if op.Is(code, x, y) && (!ok || !left.Has(x) || !right.Has(y)) {
				t.Fatalf("Narrow(%d, %v, %v) is %v, %v, %v, without %d and %d", code, a, b, left, right, ok, x, y)
			}
		}
	}
	if ok && (bound.Join(left, a) != a || bound.Join(right, b) != b || left.Low > left.High || right.Low > right.High) {
		t.Fatalf("Narrow(%d, %v, %v) is %v, %v", code, a, b, left, right)
	}
}

// TestNoMoreIsLeft: but for codes without signs, where a number below 0 leaves all as it is, no more is left than what is so of some number.
func TestNoMoreIsLeft(t *testing.T) {
	for code := api.Jeq; code <= api.Jsle; code++ {
		for _, a := range small(4) {
			for _, b := range small(4) {
				if (code == api.Jlt || code == api.Jle) && b.Low < 0 || (code == api.Jgt || code == api.Jge) && a.Low < 0 {
					stays(t, code, a, b)
					continue
				}
				wantA, ok := hull(func(n int64) bool {
					_, some := hull(func(m int64) bool { return a.Has(n) && b.Has(m) && op.Is(code, n, m) })
					return some
				})
				wantB, _ := hull(func(m int64) bool {
					_, some := hull(func(n int64) bool { return a.Has(n) && b.Has(m) && op.Is(code, n, m) })
					return some
				})
				if ok {
					narrows(t, code, a, b, wantA, wantB)
				} else {
					cannot(t, code, a, b)
				}
			}
		}
	}
}

func TestJeq(t *testing.T) {
	narrows(t, api.Jeq, of(0, 9), of(5, 20), of(5, 9), of(5, 9))
	narrows(t, api.Jeq, bound.All(), bound.One(least), bound.One(least), bound.One(least))
	narrows(t, api.Jeq, of(0, most), of(least, 0), bound.One(0), bound.One(0))
	stays(t, api.Jeq, bound.One(3), bound.One(3))
	cannot(t, api.Jeq, of(0, 9), of(10, 20))
	cannot(t, api.Jeq, bound.One(least), bound.One(most))
}

func TestJne(t *testing.T) {
	both := func(a, b, wantA, wantB bound.Bound) {
		t.Helper()
		narrows(t, api.Jne, a, b, wantA, wantB)
		narrows(t, api.Jne, b, a, wantB, wantA)
	}
	for _, n := range edges() {
		cannot(t, api.Jne, bound.One(n), bound.One(n))
	}
	five := bound.One(5)
	both(of(5, 9), five, of(6, 9), five)
	both(of(1, 5), five, of(1, 4), five)
	both(of(5, 6), five, bound.One(6), five)
	both(of(4, 5), five, bound.One(4), five)
	both(of(4, 6), five, of(4, 6), five)
	both(of(6, 9), five, of(6, 9), five)
	both(bound.One(4), five, bound.One(4), five)
	both(of(5, 9), of(5, 9), of(5, 9), of(5, 9))
	both(of(5, 9), of(5, 6), of(5, 9), of(5, 6))
	both(bound.All(), bound.One(least), of(least+1, most), bound.One(least))
	both(bound.All(), bound.One(most), of(least, most-1), bound.One(most))
	both(bound.All(), bound.One(0), bound.All(), bound.One(0))
	both(of(0, 8), bound.One(0), of(1, 8), bound.One(0))
	both(of(most-1, most), bound.One(most), bound.One(most-1), bound.One(most))
	both(of(least, least+1), bound.One(least), bound.One(least+1), bound.One(least))
}

func TestJsltAndJsgt(t *testing.T) {
	both := func(a, b, wantA, wantB bound.Bound) {
		t.Helper()
		narrowsBothWays(t, api.Jslt, api.Jsgt, a, b, wantA, wantB)
	}
	both(of(0, 9), of(2, 5), of(0, 4), of(2, 5))
	both(of(3, 9), of(2, 5), of(3, 4), of(4, 5))
	both(of(-9, 9), of(-5, -3), of(-9, -4), of(-5, -3))
	both(of(4, 9), of(2, 5), bound.One(4), bound.One(5))
	both(of(0, 1), of(2, 3), of(0, 1), of(2, 3))
	both(bound.All(), bound.All(), of(least, most-1), of(least+1, most))
	both(bound.All(), bound.One(most), of(least, most-1), bound.One(most))
	both(bound.One(least), bound.All(), bound.One(least), of(least+1, most))
	both(bound.All(), bound.One(least+1), bound.One(least), bound.One(least+1))
	both(bound.One(most-1), bound.All(), bound.One(most-1), bound.One(most))
	for _, c := range [][2]bound.Bound{
		{of(5, 9), of(2, 5)}, {of(6, 9), of(2, 5)}, {bound.One(3), bound.One(3)},
		{bound.All(), bound.One(least)}, {bound.One(most), bound.All()},
		{bound.One(least), bound.One(least)}, {bound.One(most), bound.One(most)}, {bound.One(most), bound.One(least)},
	} {
		cannotBothWays(t, api.Jslt, api.Jsgt, c[0], c[1])
	}
}

func TestJsleAndJsge(t *testing.T) {
	both := func(a, b, wantA, wantB bound.Bound) {
		t.Helper()
		narrowsBothWays(t, api.Jsle, api.Jsge, a, b, wantA, wantB)
	}
	both(of(0, 9), of(2, 5), of(0, 5), of(2, 5))
	both(of(3, 9), of(2, 5), of(3, 5), of(3, 5))
	both(of(5, 9), of(2, 5), bound.One(5), bound.One(5))
	both(of(-9, 9), of(-5, -3), of(-9, -3), of(-5, -3))
	both(bound.All(), bound.All(), bound.All(), bound.All())
	both(bound.All(), bound.One(least), bound.One(least), bound.One(least))
	both(bound.One(most), bound.All(), bound.One(most), bound.One(most))
	both(bound.One(most), bound.One(most), bound.One(most), bound.One(most))
	for _, c := range [][2]bound.Bound{
		{of(6, 9), of(2, 5)}, {bound.One(most), bound.One(most - 1)}, {bound.One(least + 1), bound.One(least)}, {bound.One(most), bound.One(least)},
	} {
		cannotBothWays(t, api.Jsle, api.Jsge, c[0], c[1])
	}
}

func TestJltAndJgt(t *testing.T) {
	both := func(a, b, wantA, wantB bound.Bound) {
		t.Helper()
		narrowsBothWays(t, api.Jlt, api.Jgt, a, b, wantA, wantB)
	}
	both(of(0, 9), of(2, 5), of(0, 4), of(2, 5))
	both(of(-9, 9), of(2, 5), of(0, 4), of(2, 5))
	both(of(-9, 9), of(0, 5), of(0, 4), of(1, 5))
	both(bound.All(), bound.One(8), of(0, 7), bound.One(8))
	both(bound.All(), of(0, most), of(0, most-1), of(1, most))
	both(bound.All(), bound.One(most), of(0, most-1), bound.One(most))
	both(bound.All(), bound.One(1), bound.One(0), bound.One(1))
	for _, a := range []bound.Bound{of(-9, -8), of(-9, 9), of(3, 9), bound.All(), bound.One(0), bound.One(most)} {
		for _, b := range []bound.Bound{of(-1, 5), of(-3, -2), bound.One(-1), of(least, most), bound.One(least), of(-1, 0)} {
			both(a, b, a, b)
		}
	}
	for _, c := range [][2]bound.Bound{
		{of(-9, -1), of(2, 5)}, {of(-9, -1), of(0, most)}, {bound.All(), bound.One(0)}, {of(0, 9), bound.One(0)},
		{of(5, 9), of(2, 5)}, {bound.One(most), of(0, most)}, {bound.One(least), bound.One(most)},
	} {
		cannotBothWays(t, api.Jlt, api.Jgt, c[0], c[1])
	}
}

func TestJleAndJge(t *testing.T) {
	both := func(a, b, wantA, wantB bound.Bound) {
		t.Helper()
		narrowsBothWays(t, api.Jle, api.Jge, a, b, wantA, wantB)
	}
	both(of(0, 9), of(2, 5), of(0, 5), of(2, 5))
	both(of(-9, 9), of(2, 5), of(0, 5), of(2, 5))
	both(of(3, 9), of(0, 5), of(3, 5), of(3, 5))
	both(bound.All(), bound.One(0), bound.One(0), bound.One(0))
	both(bound.All(), of(0, most), of(0, most), of(0, most))
	both(bound.One(most), of(0, most), bound.One(most), bound.One(most))
	for _, a := range []bound.Bound{of(-9, -8), of(-9, 9), of(3, 9), bound.All(), bound.One(0), bound.One(most)} {
		for _, b := range []bound.Bound{of(-1, 5), of(-3, -2), bound.One(-1), of(least, most), bound.One(least), of(-1, 0)} {
			both(a, b, a, b)
		}
	}
	for _, c := range [][2]bound.Bound{
		{of(-9, -1), of(2, 5)}, {of(-9, -1), of(0, most)}, {of(1, 9), bound.One(0)}, {of(6, 9), of(2, 5)}, {bound.One(least), bound.One(most)},
	} {
		cannotBothWays(t, api.Jle, api.Jge, c[0], c[1])
	}
}

func TestCodesThatAskNothing(t *testing.T) {
	l := append([]int{math.MinInt, math.MaxInt}, codes(-2, api.Jump)...)
	for _, code := range append(l, codes(api.Load, api.Exit+3)...) {
		stays(t, code, of(1, 2), of(3, 4))
		stays(t, code, of(5, 9), of(1, 2))
		stays(t, code, bound.One(3), bound.One(3))
		stays(t, code, bound.All(), bound.One(-1))
	}
}
