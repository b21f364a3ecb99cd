// Package nat calculates with natural numbers (layer 1, see shared/doc/01-nat.md).
package nat

import (
	"iter"
	"math/bits"

	"watchword/api"
)

// MaxBits is the maximum number of bits.
const MaxBits = 1024

// maxInt is the greatest number that Int returns.
const maxInt = 1 << 62

// Nat is a natural number. Equal numbers are equal structs, as digits are kept in an array.
type Nat struct{ digits }

// FromBytes returns the number with given bytes.
func FromBytes(b []byte) (Nat, api.Errno) {
	for len(b) > 0 && b[0] == 0 {
		b = b[1:]
	}
	if len(b) > MaxBits/8 {
		return Nat{}, api.ErrFull
	}
	var n Nat
	for i, c := range b {
		place := len(b) - 1 - i
		n.digits[place/4] |= uint32(c) << (8 * (place % 4))
	}
	return n, api.OK
}

// FromInt returns the number of an int.
func FromInt(v int) (Nat, api.Errno) {
	if v < 0 {
		return Nat{}, api.ErrArg
	}
	return Nat{digits{uint32(v), uint32(v >> 32)}}, api.OK
}

// Parse returns the number with a string.
func Parse(s string) (Nat, api.Errno) {
	if s == "" || s[0] == '0' && len(s) > 1 {
		return Nat{}, api.ErrFormat
	}
	var n Nat
	for i := range len(s) {
		v, ok := hexValue(s[i])
		if !ok {
			return Nat{}, api.ErrFormat
		}
		// Digits beyond the limit are still checked, as ErrFormat comes before ErrFull.
		if place := len(s) - 1 - i; place < MaxBits/4 {
			n.digits[place/8] |= v << (4 * (place % 8))
		}
	}
	if len(s) > MaxBits/4 {
		return Nat{}, api.ErrFull
	}
	return n, api.OK
}

// hexValue returns the value of a hexadecimal digit.
func hexValue(c byte) (uint32, bool) {
	switch {
	case c >= '0' && c <= '9':
		return uint32(c - '0'), true
	case c >= 'a' && c <= 'f':
		return uint32(c-'a') + 10, true
	}
	return 0, false
}

// Bytes returns the bytes of a number.
func (a Nat) Bytes() []byte {
	n := (a.length() + 7) / 8
	b := make([]byte, n)
	for i := range b {
		place := n - 1 - i
		b[i] = byte(a.digits[place/4] >> (8 * (place % 4)))
	}
	return b
}

// Int returns the int of a number.
func (a Nat) Int() (int, api.Errno) {
	if a.length() > 63 {
		return 0, api.ErrRange
	}
	v := int(a.digits[1])<<32 | int(a.digits[0])
	if v > maxInt {
		return 0, api.ErrRange
	}
	return v, api.OK
}

// Text returns the string of a number.
func (a Nat) Text() string {
	n := max((a.length()+3)/4, 1)
	s := make([]byte, n)
	for i := range s {
		place := n - 1 - i
		s[i] = "0123456789abcdef"[a.digits[place/8]>>(4*(place%8))&15]
	}
	return string(s)
}

// Compare returns the order of two numbers.
func (a Nat) Compare(b Nat) int {
	if a == b {
		return 0
	}
	if a.less(b.digits) {
		return -1
	}
	return 1
}

// IsZero reports whether a number is 0.
func (a Nat) IsZero() bool { return a == Nat{} }

// BitLen returns the number of bits.
func (a Nat) BitLen() int { return a.length() }

// Bit reports whether a bit is 1.
func (a Nat) Bit(i int) bool {
	return i >= 0 && i < MaxBits && a.digits[i/32]>>(i%32)&1 == 1
}

// Ones returns an iterator over the bits that are 1.
func (a Nat) Ones() iter.Seq[int] { return a.ones }

// Add returns the sum.
func (a Nat) Add(b Nat) (Nat, api.Errno) {
	sum, carry := a.combine(b.digits, func(x, y, carry uint32) (uint32, uint32) {
		return bits.Add32(x, y, carry)
	})
	if carry != 0 {
		return Nat{}, api.ErrFull
	}
	return Nat{sum}, api.OK
}

// Sub returns the difference.
func (a Nat) Sub(b Nat) (Nat, api.Errno) {
	difference, borrow := a.combine(b.digits, func(x, y, borrow uint32) (uint32, uint32) {
		return bits.Sub32(x, y, borrow)
	})
	if borrow != 0 {
		return Nat{}, api.ErrRange
	}
	return Nat{difference}, api.OK
}

// Mul returns the product.
func (a Nat) Mul(b Nat) (Nat, api.Errno) {
	product, ok := a.times(b.digits)
	if !ok {
		return Nat{}, api.ErrFull
	}
	return Nat{product}, api.OK
}

// Divide returns the quotient and the remainder.
func (a Nat) Divide(b Nat) (quotient, remainder Nat, e api.Errno) {
	if b.IsZero() {
		return Nat{}, Nat{}, api.ErrArg
	}
	if a.less(b.digits) {
		return Nat{}, a, api.OK
	}
	q, r := divide(a.digits, b.digits)
	return Nat{q}, Nat{r}, api.OK
}

// ShiftLeft returns the number times a power of 2.
func (a Nat) ShiftLeft(n int) (Nat, api.Errno) {
	if n < 0 {
		return Nat{}, api.ErrArg
	}
	if a.IsZero() {
		return a, api.OK
	}
	if n > MaxBits-a.length() {
		return Nat{}, api.ErrFull
	}
	return Nat{a.shifted(n, false)}, api.OK
}

// ShiftRight returns the quotient by a power of 2.
func (a Nat) ShiftRight(n int) (Nat, api.Errno) {
	if n < 0 {
		return Nat{}, api.ErrArg
	}
	if n >= MaxBits {
		return Nat{}, api.OK
	}
	return Nat{a.shifted(n, true)}, api.OK
}

// GCD returns the greatest common divisor.
func GCD(a, b Nat) Nat {
	for !b.IsZero() {
		_, r, e := a.Divide(b)
		if e != api.OK {
			return Nat{}
		}
		a, b = b, r
	}
	return a
}
