// Package nat is layer 1: natural numbers of 32-bit limbs, the lowest limb first (see shared/doc/01-nat.md).
//
// Any limbs may be handed in, also with noughts at the end. They stay as they are. What is told has no noughts at the end and is in memory of its own.
package nat

import (
	"math/bits"

	"porism/api"
)

const limbBits = 32

// length is how many limbs are left without the noughts at the end.
func length(a []uint32) int {
	n := len(a)
	for n > 0 && a[n-1] == 0 {
		n--
	}
	return n
}

// cut leaves away the noughts at the end of limbs that nobody else holds: so they need no copy.
func cut(a []uint32) []uint32 {
	n := length(a)
	if n == 0 {
		return nil
	}
	return a[:n]
}

// Trim tells the canonical limbs.
func Trim(a []uint32) []uint32 {
	n := length(a)
	if n == 0 {
		return nil
	}
	t := make([]uint32, n)
	copy(t, a)
	return t
}

// Cmp tells -1, 0 or 1, as a is below, is, is above b.
func Cmp(a, b []uint32) int {
	n := length(a)
	if m := length(b); n != m {
		return sign(n > m)
	}
	for i := range n {
		if x, y := a[n-1-i], b[n-1-i]; x != y {
			return sign(x > y)
		}
	}
	return 0
}

func sign(above bool) int {
	if above {
		return 1
	}
	return -1
}

// Add tells the sum.
func Add(a, b []uint32) []uint32 {
	n, m := length(a), length(b)
	if n < m {
		a, b, n, m = b, a, m, n
	}
	sum := make([]uint32, n+1)
	copy(sum, a[:n])
	carry := uint32(0)
	for i := 0; i < m; i++ {
		sum[i], carry = bits.Add32(sum[i], b[i], carry)
	}
	for i := m; carry != 0; i++ { // it ends: the limb above a is 0
		sum[i], carry = bits.Add32(sum[i], 0, carry)
	}
	return cut(sum)
}

// Sub tells the difference; ErrArg, if a is below b.
func Sub(a, b []uint32) ([]uint32, api.Errno) {
	if Cmp(a, b) < 0 {
		return nil, api.ErrArg
	}
	rest := Trim(a)
	m := length(b)
	borrow := uint32(0)
	for i := 0; i < m; i++ {
		rest[i], borrow = bits.Sub32(rest[i], b[i], borrow)
	}
	for i := m; borrow != 0; i++ { // it ends: a is not below b
		rest[i], borrow = bits.Sub32(rest[i], 0, borrow)
	}
	return cut(rest), api.OK
}

// Shl tells the number times 2^n; ErrArg, unless n is 0 to MaxShift.
func Shl(a []uint32, n int) ([]uint32, api.Errno) {
	if !mayShift(n) {
		return nil, api.ErrArg
	}
	m := length(a)
	if m == 0 {
		return nil, api.OK
	}
	skip, by := n/limbBits, uint(n%limbBits)
	out := make([]uint32, skip+m+1)
	for i, limb := range a[:m] {
		wide := uint64(limb) << by
		out[skip+i] |= uint32(wide)
		out[skip+i+1] = uint32(wide >> limbBits)
	}
	return cut(out), api.OK
}

// Shr tells the number divided by 2^n, rounded down; ErrArg, unless n is 0 to MaxShift.
func Shr(a []uint32, n int) ([]uint32, api.Errno) {
	if !mayShift(n) {
		return nil, api.ErrArg
	}
	skip, by := n/limbBits, uint(n%limbBits)
	m := length(a) - skip
	if m <= 0 {
		return nil, api.OK
	}
	out := make([]uint32, m)
	above := uint32(0)
	for i := m - 1; i >= 0; i-- {
		limb := a[skip+i]
		out[i] = uint32((uint64(above)<<limbBits | uint64(limb)) >> by)
		above = limb
	}
	return cut(out), api.OK
}

func mayShift(n int) bool {
	return n >= 0 && n <= api.MaxShift
}

// Bits tells how many bits the number has, without noughts ahead.
func Bits(a []uint32) int {
	n := length(a)
	if n == 0 {
		return 0
	}
	return (n-1)*limbBits + bits.Len32(a[n-1])
}

// Small tells a number's limbs.
func Small(n uint64) []uint32 {
	return cut([]uint32{uint32(n), uint32(n >> limbBits)})
}

// Word tells the number, and true, if it is below 2^64; else 0, false.
func Word(a []uint32) (uint64, bool) {
	n := length(a)
	if n > 2 {
		return 0, false
	}
	word := uint64(0)
	for i := range n {
		word |= uint64(a[i]) << (limbBits * i)
	}
	return word, true
}
