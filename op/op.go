// Package op: what steps are.
package op

import (
	"math/bits"

	"gatehouse/api"
)

// Asks says whether a code asks something of two numbers, and leads on.
func Asks(code int) (_ bool) { return api.Jeq <= code && code <= api.Jsle }

// Check says what is wrong with a program. ErrLimit: not 1 to MaxCode steps; else, an At at the first step with which something is wrong: ErrForm: no such code; ErrRange: no such register; ErrState: Top would be changed; ErrArg: something that the step has not, or no such call; ErrOrder: it leads back, or behind the end; ErrNone: it is the last one, and no Exit.
func Check(l []api.Step) (_ error) {
	if len(l) < 1 || len(l) > api.MaxCode {
		return api.ErrLimit
	}
	register := func(n int) bool { return 0 <= n && n < api.Registers }
	for i, s := range l {
		if e := wrong(s, len(l)-1-i, register); e != api.OK {
			return &api.At{Err: e, Place: i}
		}
	}
	return nil
}

// wrong is the first thing that is wrong with a step that has so many others behind it.
func wrong(s api.Step, behind int, register func(int) bool) api.Errno {
	switch {
	case s.Code < api.Mov || s.Code > api.Exit:
		return api.ErrForm
	case !register(s.Dst) || !register(s.Src):
		return api.ErrRange
	case changes(s.Code) && s.Dst == api.Top:
		return api.ErrState
	case hasMore(s) || s.Code == api.Call && !called(s.Num):
		return api.ErrArg
	// Off is held against what is left, as a sum with it might wrap.
	case leads(s.Code) && (s.Off < 0 || s.Off >= behind):
		return api.ErrOrder
	case behind == 0 && s.Code != api.Exit:
		return api.ErrNone
	}
	return api.OK
}

// changes says whether a code puts something into Dst.
func changes(code int) bool {
	return api.Mov <= code && code <= api.Neg || code == api.Load
}

// leads says whether a code may lead to another step than the next one.
func leads(code int) bool { return code == api.Jump || Asks(code) }

// called says whether there is such a call.
func called(n int64) bool { return n == api.Find || n == api.Time || n == api.Emit }

// ofTwo says whether a code makes or asks something of two numbers.
func ofTwo(code int) bool {
	return api.Mov <= code && code <= api.Arsh || Asks(code)
}

// hasSecond says whether a code has a second one, a register or a number.
func hasSecond(code int) bool { return ofTwo(code) || code == api.Store }

// hasMore says whether something of a step is not 0 (false) that its code has not.
func hasMore(s api.Step) bool {
	second := hasSecond(s.Code)
	place := s.Code == api.Load || s.Code == api.Store
	dst := ofTwo(s.Code) || s.Code == api.Neg || place
	src := second && s.Reg || s.Code == api.Load
	off := leads(s.Code) || place
	num := second && !s.Reg || s.Code == api.Call
	return !dst && s.Dst != 0 || !src && s.Src != 0 || !second && s.Reg || !off && s.Off != 0 || !num && s.Num != 0
}

// Does is what a code makes of two numbers (of Neg, of the first one); 0 of codes that make none.
func Does(code int, a, b int64) (_ int64) {
	switch code {
	case api.Mov:
		return b
	case api.Add:
		return a + b
	case api.Sub:
		return a - b
	case api.Mul:
		return a * b
	case api.Div:
		if b == 0 {
			return 0
		}
		return int64(uint64(a) / uint64(b))
	case api.Mod:
		if b == 0 {
			return a
		}
		return int64(uint64(a) % uint64(b))
	case api.And:
		return a & b
	case api.Or:
		return a | b
	case api.Xor:
		return a ^ b
	case api.Lsh:
		return a << (b & 63)
	case api.Rsh:
		return int64(uint64(a) >> (b & 63))
	case api.Arsh:
		return a >> (b & 63)
	case api.Neg:
		return -a
	}
	return 0
}

// Is says whether what a code asks of two numbers is so; false of codes that ask nothing.
func Is(code int, a, b int64) (_ bool) {
	x, y := uint64(a), uint64(b)
	switch code {
	case api.Jeq:
		return a == b
	case api.Jne:
		return a != b
	case api.Jgt:
		return x > y
	case api.Jge:
		return x >= y
	case api.Jlt:
		return x < y
	case api.Jle:
		return x <= y
	case api.Jsgt:
		return a > b
	case api.Jsge:
		return a >= b
	case api.Jslt:
		return a < b
	case api.Jsle:
		return a <= b
	}
	return false
}

// Fill is the least number of ones alone that is not below a number (0, if that is at most 0).
func Fill(n int64) (_ int64) {
	if n <= 0 {
		return 0
	}
	return int64(uint64(1)<<bits.Len64(uint64(n)) - 1)
}
