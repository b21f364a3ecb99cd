package sha

import "math/bits"

// state is H0 to H7.
type state [8]uint32

// start returns the words with which every hash begins.
func start() state {
	return state{0x6a09e667, 0xbb67ae85, 0x3c6ef372, 0xa54ff53a, 0x510e527f, 0x9b05688c, 0x1f83d9ab, 0x5be0cd19}
}

// bytes returns the words as bytes.
func (s state) bytes() [32]byte {
	var b [32]byte
	for i := range b {
		b[i] = byte(s[i/4] >> (24 - 8*(i%4)))
	}
	return b
}

// rotated returns the exclusive or of a word rotated to the right by several numbers of places.
func rotated(x uint32, places ...int) uint32 {
	var result uint32
	for _, n := range places {
		result ^= bits.RotateLeft32(x, -n)
	}
	return result
}

// absorb changes the state by a block.
func (s *state) absorb(block []byte) {
	choice := func(e, f, g uint32) uint32 { return e&f ^ ^e&g }
	majority := func(a, b, c uint32) uint32 { return a&b ^ a&c ^ b&c }
	w := schedule(block)
	a, b, c, d, e, f, g, h := s[0], s[1], s[2], s[3], s[4], s[5], s[6], s[7]
	for t, word := range w {
		t1 := h + rotated(e, 6, 11, 25) + choice(e, f, g) + constants[t] + word
		t2 := rotated(a, 2, 13, 22) + majority(a, b, c)
		h, g, f, e, d, c, b, a = g, f, e, d+t1, c, b, a, t1+t2
	}
	for i, v := range [8]uint32{a, b, c, d, e, f, g, h} {
		s[i] += v
	}
}

// schedule returns W0 to W63 of a block.
func schedule(block []byte) [64]uint32 {
	var w [64]uint32
	for i, c := range block[:blockLen:blockLen] {
		w[i/4] = w[i/4]<<8 | uint32(c)
	}
	first := func(x uint32) uint32 { return rotated(x, 7, 18) ^ x>>3 }
	second := func(x uint32) uint32 { return rotated(x, 17, 19) ^ x>>10 }
	for t := 16; t < len(w); t++ {
		w[t] = second(w[t-2]) + w[t-7] + first(w[t-15]) + w[t-16]
	}
	return w
}
