package nat

import "math/bits"

// places is the number of digits.
const places = MaxBits / 32

// digits are the digits of a number to the base 2^32, the least significant one first.
type digits [places]uint32

// length returns the minimum number of bits.
func (d digits) length() int {
	for i := places - 1; i >= 0; i-- {
		if d[i] != 0 {
			return 32*i + bits.Len32(d[i])
		}
	}
	return 0
}

// count returns the number of digits without leading zeros.
func (d digits) count() int { return (d.length() + 31) / 32 }

// less reports whether d is less than o.
func (d digits) less(o digits) bool {
	for i := places - 1; i >= 0; i-- {
		if d[i] != o[i] {
			return d[i] < o[i]
		}
	}
	return false
}

// ones yields the bits that are 1, in decreasing order.
func (d digits) ones(yield func(int) bool) {
	for i := places - 1; i >= 0; i-- {
		for rest := d[i]; rest != 0; {
			top := bits.Len32(rest) - 1
			if !yield(32*i + top) {
				return
			}
			rest &^= 1 << top
		}
	}
}

// combine combines the digits of two numbers, from the least significant ones on, and returns the last carry.
func (d digits) combine(o digits, f func(x, y, carry uint32) (uint32, uint32)) (digits, uint32) {
	var result digits
	var carry uint32
	for i := range d {
		result[i], carry = f(d[i], o[i], carry)
	}
	return result, carry
}

// times returns the product, if it has few enough digits.
func (d digits) times(o digits) (digits, bool) {
	m, n := d.count(), o.count()
	if m+n > places+1 {
		return digits{}, false
	}
	var result [places + 1]uint32
	for i := range m {
		var carry uint64
		for j := range n {
			v := uint64(d[i])*uint64(o[j]) + uint64(result[i+j]) + carry
			result[i+j], carry = uint32(v), v>>32
		}
		if carry != 0 {
			result[i+n] = uint32(carry)
		}
	}
	var product digits
	for i := range product {
		product[i] = result[i]
	}
	return product, result[places] == 0
}

// shifted returns the digits whose bits are n places higher, or lower if down is set; bits that leave are lost.
func (d digits) shifted(n int, down bool) digits {
	for i := range (digits{uint32(n)}).ones {
		step := 1 << i
		if down {
			step = -step
		}
		d = d.moved(step)
	}
	return d
}

// moved returns the digits whose bits are n places higher, where n is plus or minus a power of 2.
func (d digits) moved(n int) digits {
	var result digits
	whole, part := n>>5, n&31
	for i := max(whole, 0); i < min(places+whole+1, places); i++ {
		from := i - whole
		if from < places {
			result[i] = d[from] << part
		}
		if from > 0 {
			result[i] |= uint32(uint64(d[from-1]) << part >> 32)
		}
	}
	return result
}

// raised returns the n least significant digits, and a further one, times 2^shift, where shift is less than 32.
func (d digits) raised(n, shift int) [places + 1]uint32 {
	var result [places + 1]uint32
	var carry uint64
	for i := range n {
		v := uint64(d[i])<<shift | carry
		result[i], carry = uint32(v), v>>32
	}
	result[n] = uint32(carry)
	return result
}

// divide returns the quotient and the remainder of a number and a divisor that is neither 0 nor greater.
func divide(a, b digits) (quotient, remainder digits) {
	n := b.count()
	if n == 1 {
		return divideShort(a, b[0])
	}
	// With the divisor's first bit set, estimated digits are at most 2 too large.
	shift := bits.LeadingZeros32(b[n-1])
	divisor, rest := b.raised(n, shift), a.raised(a.count(), shift)
	for j := a.count() - n; j >= 0; j-- {
		q := estimate(&rest, &divisor, j, n)
		if subtract(&rest, &divisor, q, j, n) {
			q--
			addBack(&rest, &divisor, j, n)
		}
		quotient[j] = uint32(q)
	}
	for i := range n {
		remainder[i] = uint32((uint64(rest[i+1])<<32 | uint64(rest[i])) >> shift)
	}
	return quotient, remainder
}

// divideShort divides by a single digit.
func divideShort(a digits, b uint32) (quotient, remainder digits) {
	var rest uint64
	for i := places - 1; i >= 0; i-- {
		rest = rest<<32 | uint64(a[i])
		quotient[i] = uint32(rest / uint64(b))
		rest %= uint64(b)
	}
	remainder[0] = uint32(rest)
	return quotient, remainder
}

// estimate returns the digit j of a quotient, or 1 more, from the first digits of the rest and of the divisor.
func estimate(rest *[places + 1]uint32, divisor *[places + 1]uint32, j, n int) uint64 {
	top := uint64(rest[j+n])<<32 | uint64(rest[j+n-1])
	q, r := top/uint64(divisor[n-1]), top%uint64(divisor[n-1])
correct:
	for {
		switch {
		case r >= 1<<32:
			break correct
		case q >= 1<<32 || q*uint64(divisor[n-2]) > r<<32|uint64(rest[j+n-2]):
			q--
			r += uint64(divisor[n-1])
		default:
			break correct
		}
	}
	return q
}

// subtract subtracts q times the divisor from the rest at the place j, and reports whether it was too much.
func subtract(rest *[places + 1]uint32, divisor *[places + 1]uint32, q uint64, j, n int) bool {
	var carry uint64
	var borrow uint32
	for i := range n {
		v := q*uint64(divisor[i]) + carry
		carry = v >> 32
		rest[i+j], borrow = bits.Sub32(rest[i+j], uint32(v), borrow)
	}
	rest[j+n], borrow = bits.Sub32(rest[j+n], uint32(carry), borrow)
	return borrow != 0
}

// addBack adds the divisor to the rest at the place j; the carry ends the borrow of the subtraction before.
func addBack(rest *[places + 1]uint32, divisor *[places + 1]uint32, j, n int) {
	var carry uint32
	for i := range n {
		rest[i+j], carry = bits.Add32(rest[i+j], divisor[i], carry)
	}
	rest[j+n] += carry
}
