package op_test

import (
	"math"
	"math/big"
	"testing"

	"gatehouse/api"
	"gatehouse/op"
)

const (
	least = math.MinInt64
	most  = math.MaxInt64
)

// edges are the numbers at which something may change.
func edges() []int64 {
	l := []int64{least, least + 1, least + 2, most - 2, most - 1, most, 0x0123456789abcdef, -0x0123456789abcdef}
	for n := int64(-10); n <= 10; n++ {
		l = append(l, n)
	}
	for _, k := range []int{6, 7, 31, 32, 33, 62} {
		p := int64(1) << k
		l = append(l, p-1, p, p+1, -p-1, -p, -p+1)
	}
	return l
}

// signed and unsigned are what 64 bits are, with and without a sign.
func signed(n int64) *big.Int   { return big.NewInt(n) }
func unsigned(n int64) *big.Int { return new(big.Int).SetUint64(uint64(n)) }

// wrapped is what is left of a number in 64 bits.
func wrapped(n *big.Int) int64 {
	low := new(big.Int).And(n, new(big.Int).SetUint64(math.MaxUint64))
	return int64(low.Uint64())
}

// made is what a code makes of two numbers, by numbers of any size.
func made(code int, a, b int64) int64 {
	z, k := new(big.Int), uint(wrapped(new(big.Int).And(unsigned(b), big.NewInt(63))))
	switch code {
	case api.Mov:
		z.Set(signed(b))
	case api.Add:
		z.Add(signed(a), signed(b))
	case api.Sub:
		z.Sub(signed(a), signed(b))
	case api.Mul:
		z.Mul(signed(a), signed(b))
	case api.Div:
		if b != 0 {
			z.Quo(unsigned(a), unsigned(b))
		}
	case api.Mod:
		z.Set(unsigned(a))
		if b != 0 {
			z.Rem(unsigned(a), unsigned(b))
		}
	case api.And:
		z.And(unsigned(a), unsigned(b))
	case api.Or:
		z.Or(unsigned(a), unsigned(b))
	case api.Xor:
		z.Xor(unsigned(a), unsigned(b))
	case api.Lsh:
		z.Lsh(signed(a), k)
	case api.Rsh:
		z.Rsh(unsigned(a), k)
	case api.Arsh:
		z.Rsh(signed(a), k)
	case api.Neg:
		z.Neg(signed(a))
	}
	return wrapped(z)
}

// so says whether what a code asks is so, by numbers of any size.
func so(code int, a, b int64) bool {
	with, without := signed(a).Cmp(signed(b)), unsigned(a).Cmp(unsigned(b))
	switch code {
	case api.Jeq:
		return with == 0
	case api.Jne:
		return with != 0
	case api.Jgt:
		return without > 0
	case api.Jge:
		return without >= 0
	case api.Jlt:
		return without < 0
	case api.Jle:
		return without <= 0
	case api.Jsgt:
		return with > 0
	case api.Jsge:
		return with >= 0
	case api.Jslt:
		return with < 0
	case api.Jsle:
		return with <= 0
	}
	return false
}

func TestDoesAndIsOfEdges(t *testing.T) {
	for code := api.Mov - 2; code <= api.Exit+2; code++ {
		for _, a := range edges() {
			for _, b := range edges() {
				if got, want := op.Does(code, a, b), made(code, a, b); got != want {
					t.Fatalf("Does(%d, %d, %d) is %d, not %d", code, a, b, got, want)
				}
				if got, want := op.Is(code, a, b), so(code, a, b); got != want {
					t.Fatalf("Is(%d, %d, %d) is %v, not %v", code, a, b, got, want)
				}
			}
		}
	}
}

func TestDoes(t *testing.T) {
	for _, c := range []struct {
		code       int
		a, b, want int64
	}{
		{api.Mov, 3, 4, 4},
		{api.Add, most, 1, least},
		{api.Sub, least, 1, most},
		{api.Mul, least, -1, least},
		{api.Mul, 1 << 32, 1 << 32, 0},
		{api.Div, 7, 2, 3},
		{api.Div, 7, 0, 0},
		{api.Div, 0, 0, 0},
		{api.Div, least, 0, 0},
		{api.Div, -1, 2, most},
		{api.Div, least, -1, 0},
		{api.Div, -1, least, 1},
		{api.Mod, 7, 4, 3},
		{api.Mod, 7, 0, 7},
		{api.Mod, -7, 0, -7},
		{api.Mod, least, -1, least},
		{api.Mod, -1, 10, 5},
		{api.And, -1, 12, 12},
		{api.Or, 3, -8, -5},
		{api.Xor, -1, 5, -6},
		{api.Lsh, 1, 63, least},
		{api.Lsh, 1, 64, 1},
		{api.Lsh, 1, 65, 2},
		{api.Lsh, 1, -1, least},
		{api.Rsh, -1, 1, most},
		{api.Rsh, -1, 64, -1},
		{api.Rsh, -1, -1, 1},
		{api.Arsh, -8, 1, -4},
		{api.Arsh, -1, 63, -1},
		{api.Arsh, least, 63, -1},
		{api.Arsh, 9, 64, 9},
		{api.Arsh, 9, least, 9},
		{api.Neg, 5, 77, -5},
		{api.Neg, least, 1, least},
		{api.Jump, 5, 5, 0},
		{api.Jeq, 5, 5, 0},
		{api.Exit, 5, 5, 0},
		{0, 5, 5, 0},
		{api.Exit + 1, 5, 5, 0},
		{math.MinInt, 5, 5, 0},
		{math.MaxInt, 5, 5, 0},
	} {
		if got := op.Does(c.code, c.a, c.b); got != c.want {
			t.Errorf("Does(%d, %d, %d) is %d, not %d", c.code, c.a, c.b, got, c.want)
		}
	}
}

func TestIs(t *testing.T) {
	for _, c := range []struct {
		code int
		a, b int64
		want bool
	}{
		{api.Jeq, least, least, true},
		{api.Jeq, least, most, false},
		{api.Jne, 1, 2, true},
		{api.Jne, 2, 2, false},
		{api.Jgt, -1, 1, true},
		{api.Jgt, 1, 1, false},
		{api.Jge, least, most, true},
		{api.Jge, 1, 1, true},
		{api.Jlt, 1, -1, true},
		{api.Jlt, -1, -1, false},
		{api.Jle, most, least, true},
		{api.Jle, -1, 0, false},
		{api.Jsgt, 1, -1, true},
		{api.Jsgt, -1, 1, false},
		{api.Jsge, most, least, true},
		{api.Jsge, least, least, true},
		{api.Jslt, least, most, true},
		{api.Jslt, 0, 0, false},
		{api.Jsle, -1, 0, true},
		{api.Jsle, 0, -1, false},
		{api.Mov, 1, 1, false},
		{api.Jump, 1, 1, false},
		{api.Exit, 1, 1, false},
		{-1, 1, 1, false},
		{math.MaxInt, 1, 1, false},
	} {
		if got := op.Is(c.code, c.a, c.b); got != c.want {
			t.Errorf("Is(%d, %d, %d) is %v", c.code, c.a, c.b, got)
		}
	}
}

func TestFill(t *testing.T) {
	for _, c := range [][2]int64{
		{least, 0}, {least + 1, 0}, {-1, 0}, {0, 0},
		{1, 1}, {2, 3}, {3, 3}, {4, 7}, {5, 7}, {7, 7}, {8, 15},
		{1<<62 - 1, 1<<62 - 1}, {1 << 62, most}, {most - 1, most}, {most, most},
	} {
		if got := op.Fill(c[0]); got != c[1] {
			t.Errorf("Fill(%d) is %d, not %d", c[0], got, c[1])
		}
	}
}

func TestFillIsTheLeast(t *testing.T) {
	below := int64(0)
	for k := 1; k <= 63; k++ {
		ones := int64(uint64(1)<<k - 1)
		for _, n := range []int64{below + 1, below + (ones-below+1)/2, ones} {
			if got := op.Fill(n); got != ones {
				t.Errorf("Fill(%d) is %d, not %d", n, got, ones)
			}
		}
		below = ones
	}
}
