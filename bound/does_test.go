package bound_test

import (
	"math"
	"math/big"
	"testing"

	"gatehouse/api"
	"gatehouse/bound"
	"gatehouse/op"
)

// does holds Does against a bound.
func does(t *testing.T, code int, a, b, want bound.Bound) {
	t.Helper()
	if got := bound.Does(code, a, b); got != want {
		t.Errorf("Does(%d, %v, %v) is %v, not %v", code, a, b, got, want)
	}
}

// row is what Does makes of two bounds.
type row struct{ a, b, want bound.Bound }

// rows holds Does of a code against rows.
func rows(t *testing.T, code int, l ...row) {
	t.Helper()
	for _, r := range l {
		does(t, code, r.a, r.b, r.want)
	}
}

// TestWhatIsBetweenStaysBetween: what a code makes of numbers that two bounds have lies in what Does makes of the bounds.
func TestWhatIsBetweenStaysBetween(t *testing.T) {
	for code := api.Mov; code <= api.Neg; code++ {
		for _, l := range [][]bound.Bound{small(4), wide()} {
			for _, a := range l {
				for _, b := range l {
					keeps(t, code, a, b)
				}
			}
		}
	}
}

// keeps holds Does against numbers that two bounds have (of small ones, all of them).
func keeps(t *testing.T, code int, a, b bound.Bound) {
	got := bound.Does(code, a, b)
	for _, x := range some(a) {
		for _, y := range some(b) {
			if n := op.Does(code, x, y); !got.Has(n) {
				t.Fatalf("Does(%d, %v, %v) is %v, without %d of %d and %d", code, a, b, got, n, x, y)
			}
		}
	}
}

// TestDoesIsTheLeastBound: where the table tells ends that are met, Does is no more than it must be.
func TestDoesIsTheLeastBound(t *testing.T) {
	met := func(code int, a, b bound.Bound) bool {
		switch code {
		case api.Mov, api.Add, api.Sub, api.Mul, api.Neg:
			return true
		case api.Div:
			return a.Low >= 0 && b.Low > 0
		case api.Lsh, api.Arsh:
			return b.Low == b.High && b.Low >= 0
		case api.Rsh:
			return a.Low >= 0 && b.Low == b.High
		}
		return false
	}
	for code := api.Mov; code <= api.Neg; code++ {
		for _, a := range small(4) {
			for _, b := range small(4) {
				if met(code, a, b) {
					does(t, code, a, b, made(code, a, b))
				}
			}
		}
	}
}

// made is the least bound of all that a code makes of the numbers of two bounds.
func made(code int, a, b bound.Bound) bound.Bound {
	low, high := int64(most), int64(least)
	for x := a.Low; x <= a.High; x++ {
		for y := b.Low; y <= b.High; y++ {
			n := op.Does(code, x, y)
			low, high = min(low, n), max(high, n)
		}
	}
	return of(low, high)
}

func TestMov(t *testing.T) {
	for _, b := range wide() {
		does(t, api.Mov, of(1, 2), b, b)
		does(t, api.Mov, bound.All(), b, b)
	}
}

func TestAdd(t *testing.T) {
	rows(t, api.Add,
		row{of(1, 2), of(2, 3), of(3, 5)},
		row{of(-4, 7), of(-10, 20), of(-14, 27)},
		row{of(0, most-1), of(0, 1), of(0, most)},
		row{of(0, most), of(0, 1), bound.All()},
		row{of(0, most), of(-1, 0), of(-1, most)},
		row{of(least+1, 0), of(-1, 0), of(least, 0)},
		row{of(least, 0), of(-1, 0), bound.All()},
		row{of(least, 0), of(0, 1), of(least, 1)},
		row{bound.One(most), bound.One(1), bound.All()},
		row{bound.One(least), bound.One(-1), bound.All()},
		row{bound.One(most), bound.One(most), bound.All()},
		row{bound.One(least), bound.One(least), bound.All()},
		row{bound.One(most), bound.One(least), bound.One(-1)},
		row{bound.All(), bound.One(0), bound.All()},
		row{of(least, most), of(1, 1), bound.All()},
		row{of(least, 5), of(1, 1), of(least+1, 6)},
	)
}

func TestSub(t *testing.T) {
	rows(t, api.Sub,
		row{of(1, 2), of(2, 3), of(-2, 0)},
		row{of(-4, 7), of(-10, 20), of(-24, 17)},
		row{of(0, most), of(0, 1), of(-1, most)},
		row{of(0, most), of(-1, 0), bound.All()},
		row{of(0, most-1), of(-1, 0), of(0, most)},
		row{of(least, 0), of(0, 1), bound.All()},
		row{of(least+1, 0), of(0, 1), of(least, 0)},
		row{bound.One(0), bound.One(least), bound.All()},
		row{bound.One(-1), bound.One(least), bound.One(most)},
		row{bound.One(-1), bound.One(most), bound.One(least)},
		row{bound.One(-2), bound.One(most), bound.All()},
		row{bound.One(least), bound.One(least), bound.One(0)},
		row{bound.One(most), bound.One(least), bound.All()},
		row{bound.All(), bound.One(0), bound.All()},
		row{of(3, 4), of(0, most), of(3-most, 4)},
	)
}

func TestMul(t *testing.T) {
	const k = 1 << 31
	rows(t, api.Mul,
		row{of(2, 3), of(4, 5), of(8, 15)},
		row{of(-2, 3), of(4, 5), of(-10, 15)},
		row{of(-2, 3), of(-7, 5), of(-21, 15)},
		row{of(-3, -2), of(-7, -5), of(10, 21)},
		row{of(-3, 2), of(-7, 5), of(-15, 21)},
		row{of(0, 0), of(-k, k), of(0, 0)},
		row{of(-k, k), of(-k, k), of(-k*k, k*k)},
		row{bound.One(k), bound.One(k), bound.One(k * k)},
		row{bound.One(-k), bound.One(-k), bound.One(k * k)},
		row{bound.One(k), bound.One(-k), bound.One(-k * k)},
		row{bound.One(k + 1), bound.One(1), bound.All()},
		row{bound.One(-k - 1), bound.One(1), bound.All()},
		row{of(least, most), bound.One(0), bound.All()},
		row{bound.One(least), bound.One(-1), bound.All()},
		row{bound.One(most), bound.One(2), bound.All()},
		row{bound.One(1 << 32), bound.One(1 << 32), bound.All()},
	)
	for _, beyond := range []bound.Bound{of(0, k+1), of(-k-1, 0), of(-k-1, k+1), of(least, 0), of(0, most)} {
		rows(t, api.Mul, row{beyond, of(0, 1), bound.All()}, row{of(0, 1), beyond, bound.All()})
	}
}

func TestDiv(t *testing.T) {
	rows(t, api.Div,
		row{of(10, 20), of(2, 3), of(3, 10)},
		row{of(0, 7), of(1, 1), of(0, 7)},
		row{of(7, 9), of(10, 20), of(0, 0)},
		row{of(10, 20), of(0, 3), of(0, 20)},
		row{of(10, 20), bound.One(0), of(0, 20)},
		row{of(10, 20), of(1, 3), of(3, 20)},
		row{of(10, 20), of(-1, 3), bound.All()},
		row{of(10, 20), bound.One(-1), bound.All()},
		row{of(-1, 20), of(2, 3), bound.All()},
		row{of(-9, -8), of(2, 3), bound.All()},
		row{bound.One(least), bound.One(-1), bound.All()},
		row{of(0, most), of(1, most), of(0, most)},
		row{bound.One(most), bound.One(most), bound.One(1)},
		row{bound.One(most), bound.One(2), bound.One(most / 2)},
		row{of(0, most), of(0, most), of(0, most)},
		row{of(0, 0), of(0, 0), of(0, 0)},
	)
}

func TestMod(t *testing.T) {
	rows(t, api.Mod,
		row{of(10, 20), of(2, 3), of(0, 2)},
		row{of(1, 2), of(5, 9), of(0, 2)},
		row{of(0, 8), of(5, 9), of(0, 8)},
		row{of(0, 9), of(5, 9), of(0, 8)},
		row{of(10, 20), bound.One(1), of(0, 0)},
		row{of(10, 20), of(0, 3), of(0, 20)},
		row{of(10, 20), bound.One(0), of(0, 20)},
		row{of(10, 20), of(1, 3), of(0, 2)},
		row{of(10, 20), of(-1, 3), bound.All()},
		row{of(-1, 20), of(2, 3), bound.All()},
		row{of(-9, -8), of(2, 3), bound.All()},
		row{bound.One(least), bound.One(-1), bound.All()},
		row{of(0, most), of(1, most), of(0, most-1)},
		row{of(0, most), of(0, most), of(0, most)},
	)
}

func TestAnd(t *testing.T) {
	rows(t, api.And,
		row{of(3, 9), of(1, 6), of(0, 6)},
		row{of(1, 6), of(3, 9), of(0, 6)},
		row{of(0, 9), of(-1, 6), of(0, 9)},
		row{of(-1, 6), of(0, 9), of(0, 9)},
		row{of(0, 9), of(-7, -6), of(0, 9)},
		row{of(-7, -6), of(0, 9), of(0, 9)},
		row{of(-1, 9), of(-1, 6), bound.All()},
		row{of(-9, -8), of(-7, -6), bound.All()},
		row{bound.All(), of(0, 0), of(0, 0)},
		row{bound.All(), of(0, most), of(0, most)},
		row{of(12, 12), of(12, 12), of(0, 12)},
	)
}

func TestOrAndXor(t *testing.T) {
	for _, c := range []struct{ a, b, or bound.Bound }{
		{of(1, 2), of(3, 4), of(3, 7)},
		{of(3, 4), of(1, 2), of(3, 7)},
		{of(2, 7), of(5, 6), of(5, 7)},
		{of(2, 8), of(5, 6), of(5, 15)},
		{of(0, 0), of(0, 0), of(0, 0)},
		{of(0, 1), of(0, 0), of(0, 1)},
		{of(0, most), of(9, 10), of(9, most)},
		{of(0, 1<<62), of(0, 0), of(0, most)},
		{of(0, 1<<62-1), of(0, 0), of(0, 1<<62-1)},
		{bound.One(most), bound.One(most), bound.One(most)},
	} {
		does(t, api.Or, c.a, c.b, c.or)
		does(t, api.Xor, c.a, c.b, of(0, c.or.High))
	}
	for _, low := range []int64{-1, -5, least} {
		for _, code := range []int{api.Or, api.Xor} {
			rows(t, code, row{of(low, 5), of(1, 2), bound.All()}, row{of(1, 2), of(low, 5), bound.All()}, row{of(low, -1), of(low, -1), bound.All()})
		}
	}
}

func TestLsh(t *testing.T) {
	rows(t, api.Lsh,
		row{of(-3, 5), bound.One(2), of(-12, 20)},
		row{of(-3, 5), bound.One(0), of(-3, 5)},
		row{of(-3, 5), bound.One(64), of(-3, 5)},
		row{of(-3, 5), bound.One(65), of(-6, 10)},
		row{of(-3, 5), bound.One(-64), of(-3, 5)},
		row{of(-3, 5), bound.One(-62), of(-12, 20)},
		row{of(-3, 5), bound.One(least), of(-3, 5)},
		row{bound.All(), bound.One(0), bound.All()},
		row{of(-1, 0), bound.One(63), of(least, 0)},
		row{of(-1, 0), bound.One(-1), of(least, 0)},
		row{of(-1, 0), bound.One(most), of(least, 0)},
		row{of(-1, 1), bound.One(63), bound.All()},
		row{of(-2, 0), bound.One(63), bound.All()},
		row{bound.One(0), bound.One(63), bound.One(0)},
		row{of(0, 1), bound.One(62), of(0, 1<<62)},
		row{of(0, 2), bound.One(62), bound.All()},
		row{of(-2, 1), bound.One(62), of(least, 1<<62)},
		row{of(-3, 1), bound.One(62), bound.All()},
		row{of(0, most), bound.One(1), bound.All()},
		row{of(0, most/2), bound.One(1), of(0, most-1)},
		row{of(least, 0), bound.One(1), bound.All()},
		row{of(least/2, 0), bound.One(1), of(least, 0)},
		row{bound.One(1 << 32), bound.One(32), bound.All()},
		row{of(1, 2), of(0, 1), bound.All()},
		row{of(1, 2), of(64, 128), bound.All()},
		row{bound.One(0), of(0, 1), bound.All()},
	)
}

func TestRsh(t *testing.T) {
	rows(t, api.Rsh,
		row{of(9, 20), bound.One(2), of(2, 5)},
		row{of(0, most), bound.One(63), of(0, 0)},
		row{of(0, most), bound.One(62), of(0, 1)},
		row{of(0, 20), bound.One(1), of(0, 10)},
		row{of(-9, -8), bound.One(0), of(-9, -8)},
		row{of(-9, 8), bound.One(64), of(-9, 8)},
		row{bound.All(), bound.One(least), bound.All()},
		row{of(-9, -8), bound.One(1), of(0, most)},
		row{of(-9, 8), bound.One(1), of(0, most)},
		row{bound.One(-1), bound.One(2), of(0, 1<<62-1)},
		row{of(-1, 0), bound.One(32), of(0, 1<<32-1)},
		row{of(-1, 0), bound.One(62), of(0, 3)},
		row{bound.All(), bound.One(63), of(0, 1)},
		row{bound.All(), bound.One(-1), of(0, 1)},
		row{bound.One(least), bound.One(65), of(0, most)},
		row{of(9, 20), bound.One(-63), of(4, 10)},
		row{of(9, 20), of(2, 3), of(0, 20)},
		row{of(0, 20), of(-2, 3), of(0, 20)},
		row{of(0, 20), of(64, 128), of(0, 20)},
		row{of(-1, 20), of(2, 3), bound.All()},
		row{of(-9, -8), of(2, 3), bound.All()},
		row{of(-9, -8), of(0, 1), bound.All()},
	)
}

func TestArsh(t *testing.T) {
	rows(t, api.Arsh,
		row{of(9, 20), bound.One(2), of(2, 5)},
		row{of(-9, 20), bound.One(2), of(-3, 5)},
		row{of(-9, -5), bound.One(1), of(-5, -3)},
		row{of(-8, -8), bound.One(1), of(-4, -4)},
		row{of(-9, 20), bound.One(0), of(-9, 20)},
		row{of(-9, 20), bound.One(64), of(-9, 20)},
		row{of(-9, 20), bound.One(-63), of(-5, 10)},
		row{of(-9, 20), bound.One(63), of(-1, 0)},
		row{bound.All(), bound.One(63), of(-1, 0)},
		row{bound.All(), bound.One(-1), of(-1, 0)},
		row{bound.All(), bound.One(62), of(-2, 1)},
		row{bound.All(), bound.One(0), bound.All()},
		row{bound.One(0), bound.One(63), bound.One(0)},
		row{of(9, 20), of(0, 2), of(0, 20)},
		row{of(0, 20), of(0, 2), of(0, 20)},
		row{of(-9, -5), of(0, 2), of(-9, -1)},
		row{of(-9, -1), of(0, 2), of(-9, -1)},
		row{of(-9, 0), of(0, 2), of(-9, 0)},
		row{of(-9, 20), of(0, 2), of(-9, 20)},
		row{of(-9, 20), of(64, 128), of(-9, 20)},
		row{of(-9, 20), of(-5, -4), of(-9, 20)},
	)
}

func TestNeg(t *testing.T) {
	for _, b := range []bound.Bound{of(1, 2), bound.One(0), bound.All(), bound.One(least)} {
		rows(t, api.Neg,
			row{of(-4, 7), b, of(-7, 4)},
			row{of(3, 5), b, of(-5, -3)},
			row{bound.One(0), b, bound.One(0)},
			row{of(0, most), b, of(-most, 0)},
			row{of(least+1, most), b, of(least+1, most)},
			row{bound.One(least + 1), b, bound.One(most)},
			row{bound.One(least), b, bound.All()},
			row{of(least, 3), b, bound.All()},
			row{bound.All(), b, bound.All()},
		)
	}
}

func TestCodesThatMakeNothing(t *testing.T) {
	for _, code := range append([]int{math.MinInt, -1, 0, math.MaxInt}, codes(api.Jump, api.Exit+3)...) {
		does(t, code, of(1, 2), of(3, 4), bound.All())
		does(t, code, bound.One(0), bound.One(0), bound.All())
	}
}

// TestDoesByTheTable holds Does against the table, told by numbers of any size.
func TestDoesByTheTable(t *testing.T) {
	l := append(wide(), small(2)...)
	for code := api.Mov - 1; code <= api.Jeq; code++ {
		for _, a := range l {
			for _, b := range l {
				if got, want := bound.Does(code, a, b), table(code, a, b); got != want {
					t.Fatalf("Does(%d, %v, %v) is %v, not %v", code, a, b, got, want)
				}
			}
		}
	}
}

// fitted is the bound of two numbers of any size, or All.
func fitted(low, high *big.Int) bound.Bound {
	if !low.IsInt64() || !high.IsInt64() {
		return bound.All()
	}
	return of(low.Int64(), high.Int64())
}

// table is the bound that the table tells of a code.
func table(code int, a, b bound.Bound) bound.Bound {
	al, ah, bl, bh := big.NewInt(a.Low), big.NewInt(a.High), big.NewInt(b.Low), big.NewInt(b.High)
	z := func() *big.Int { return new(big.Int) }
	bare := a.Low >= 0 && b.Low >= 0
	switch code {
	case api.Mov:
		return b
	case api.Add:
		return fitted(z().Add(al, bl), z().Add(ah, bh))
	case api.Sub:
		return fitted(z().Sub(al, bh), z().Sub(ah, bl))
	case api.Mul:
		return mulTable(a, b)
	case api.Neg:
		return fitted(z().Neg(ah), z().Neg(al))
	case api.Lsh, api.Rsh, api.Arsh:
		return shiftTable(code, a, b)
	case api.And:
		high := int64(most)
		for _, x := range []bound.Bound{a, b} {
			if x.Low >= 0 {
				high = min(high, x.High)
			}
		}
		if a.Low >= 0 || b.Low >= 0 {
			return of(0, high)
		}
	case api.Div:
		if bare && b.Low > 0 {
			return fitted(z().Quo(al, bh), z().Quo(ah, bl))
		} else if bare {
			return of(0, a.High)
		}
	case api.Mod:
		if bare && b.Low > 0 {
			return of(0, min(a.High, b.High-1))
		} else if bare {
			return of(0, a.High)
		}
	case api.Or:
		if bare {
			return of(max(a.Low, b.Low), op.Fill(max(a.High, b.High)))
		}
	case api.Xor:
		if bare {
			return of(0, op.Fill(max(a.High, b.High)))
		}
	}
	return bound.All()
}

// mulTable is the table's line of Mul.
func mulTable(a, b bound.Bound) bound.Bound {
	least, most := big.NewInt(math.MaxInt64), big.NewInt(math.MinInt64)
	for _, x := range []int64{a.Low, a.High} {
		for _, y := range []int64{b.Low, b.High} {
			if max(x, y) > 1<<31 || min(x, y) < -1<<31 {
				return bound.All()
			}
			p := new(big.Int).Mul(big.NewInt(x), big.NewInt(y))
			if p.Cmp(least) < 0 {
				least = p
			}
			if p.Cmp(most) > 0 {
				most = p
			}
		}
	}
	return fitted(least, most)
}

// shiftTable are the table's lines of shifts.
func shiftTable(code int, a, b bound.Bound) bound.Bound {
	k := uint(uint64(b.Low) % 64)
	power := new(big.Int).Exp(big.NewInt(2), big.NewInt(int64(k)), nil)
	// Div rounds down, as the power is above 0.
	down := func(n int64) *big.Int { return new(big.Int).Div(big.NewInt(n), power) }
	up := func(n int64) *big.Int { return new(big.Int).Mul(big.NewInt(n), power) }
	one := b.Low == b.High
	switch {
	case code == api.Lsh && one:
		return fitted(up(a.Low), up(a.High))
	case code == api.Lsh:
		return bound.All()
	case code == api.Arsh && one:
		return fitted(down(a.Low), down(a.High))
	case code == api.Rsh && one && k == 0:
		return a
	case code == api.Rsh && one && a.Low >= 0:
		return fitted(down(a.Low), down(a.High))
	case code == api.Rsh && one:
		all := new(big.Int).Exp(big.NewInt(2), big.NewInt(64-int64(k)), nil)
		return fitted(big.NewInt(0), all.Sub(all, big.NewInt(1)))
	case a.Low >= 0:
		return of(0, a.High)
	case code == api.Rsh:
		return bound.All()
	case a.High < 0:
		return of(a.Low, -1)
	}
	return a
}
