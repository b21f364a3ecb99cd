package aes

// block is a block of bytes.
type block [BlockLen]byte

// substitutes are the substitutes of all bytes, and the bytes with given substitutes.
type substitutes struct {
	forward, backward [256]byte
}

// newSubstitutes calculates the table: as 3 generates all bytes but 0, its powers and those of its inverse, F6, go through all bytes and their inverses.
func newSubstitutes() substitutes {
	var s substitutes
	b, inverse := byte(1), byte(1)
	for range 255 {
		s.set(b, inverse)
		b ^= double(b)
		inverse = product(inverse, 0xf6)
	}
	s.set(0, 0)
	return s
}

// set sets the substitute of a byte with a given inverse.
func (s *substitutes) set(b, inverse byte) {
	result := byte(0x63)
	for n := range 5 {
		result ^= inverse<<n | inverse>>(8-n)
	}
	s.forward[b], s.backward[result] = result, b
}

// substitute replaces each byte by its substitute.
func (s *substitutes) substitute(b block) block {
	for i, v := range b {
		b[i] = s.forward[v]
	}
	return b
}

// restore inverts substitute.
func (s *substitutes) restore(b block) block {
	for i, v := range b {
		b[i] = s.backward[v]
	}
	return b
}

// double returns the product of 2 and a byte.
func double(b byte) byte {
	if b&0x80 != 0 {
		return b<<1 ^ 0x1b
	}
	return b << 1
}

// product returns the product of two bytes.
func product(a, b byte) byte {
	var result byte
	for ; b > 0; b >>= 1 {
		if b&1 == 1 {
			result ^= a
		}
		a = double(a)
	}
	return result
}

// apply applies operations, one after the other.
func apply(b block, operations ...func(block) block) block {
	for _, operation := range operations {
		b = operation(b)
	}
	return b
}

// add combines a block with a key.
func (k block) add(b block) block {
	for i, v := range k {
		b[i] ^= v
	}
	return b
}

// shift moves the bytes of each row.
func shift(b block) block {
	var result block
	for i := range b {
		result[i] = b[(i+4*(i%4))%BlockLen]
	}
	return result
}

// unshift inverts shift.
func unshift(b block) block {
	var result block
	for i, v := range b {
		result[(i+4*(i%4))%BlockLen] = v
	}
	return result
}

// mix replaces the columns by combinations of their bytes.
func mix(b block) block {
	return columns(b, func(column [4]byte, r int) byte {
		x, y := column[r], column[(r+1)%4]
		return double(x^y) ^ y ^ column[(r+2)%4] ^ column[(r+3)%4]
	})
}

// unmix inverts mix.
func unmix(b block) block {
	return columns(b, func(column [4]byte, r int) byte {
		return product(column[r], 14) ^ product(column[(r+1)%4], 11) ^ product(column[(r+2)%4], 13) ^ product(column[(r+3)%4], 9)
	})
}

// columns replaces each byte by what a function of its column and its row returns.
func columns(b block, f func(column [4]byte, r int) byte) block {
	var result block
	for i := range b {
		start := i - i%4
		result[i] = f([4]byte(b[start:start+4]), i%4)
	}
	return result
}
