package der

import "watchword/api"

// The tags of the kinds of elements.
const (
	tagBool        = 0x01
	tagInteger     = 0x02
	tagBits        = 0x03
	tagOctets      = 0x04
	tagTime        = 0x18
	tagString      = 0x1b
	tagSequence    = 0x30
	tagApplication = 0x60
	tagTagged      = 0xa0
)

const (
	maxContents = 1<<24 - 1
	maxTag      = 30
)

// element returns the element with a tag and with parts as its contents, or nothing if these are too long.
func element(tag byte, parts ...[]byte) []byte {
	n := 0
	for _, part := range parts {
		n += len(part)
	}
	if n > maxContents {
		return nil
	}
	b := append([]byte{tag}, lengthOf(n)...)
	for _, part := range parts {
		b = append(b, part...)
	}
	return b
}

// lengthOf returns a length as bytes.
func lengthOf(n int) []byte {
	switch {
	case n < 0x80:
		return []byte{byte(n)}
	case n < 1<<8:
		return []byte{0x81, byte(n)}
	case n < 1<<16:
		return []byte{0x82, byte(n >> 8), byte(n)}
	}
	return []byte{0x83, byte(n >> 16), byte(n >> 8), byte(n)}
}

// fixed returns a number in n bytes.
func fixed(v, n int) []byte {
	b := make([]byte, n)
	for i := range b {
		b[i] = byte(v >> (8 * (n - 1 - i)))
	}
	return b
}

// all returns the sequence of elements, or nothing if one of them is missing.
func all(elements ...[]byte) []byte {
	for _, e := range elements {
		if len(e) == 0 {
			return nil
		}
	}
	return Sequence(elements...)
}

// Bool returns the element of a boolean.
func Bool(v bool) []byte {
	if v {
		return element(tagBool, []byte{0xff})
	}
	return element(tagBool, []byte{0})
}

// Integer returns the element of an integer.
func Integer(v int) []byte {
	if v < -MaxInteger || v > MaxInteger {
		return nil
	}
	n := 1
	for v>>(8*n-1) != 0 && v>>(8*n-1) != -1 {
		n++
	}
	return element(tagInteger, fixed(v, n))
}

// Bits returns the element of flags.
func Bits(flags uint32) []byte { return element(tagBits, []byte{0}, fixed(int(flags), 4)) }

// Octets returns the element of bytes.
func Octets(b []byte) []byte { return element(tagOctets, b) }

// Time returns the element of a time.
func Time(t int) []byte {
	if t < 0 || t > api.MaxTime {
		return nil
	}
	return element(tagTime, fixed(t, 6))
}

// String returns the element of a string.
func String(s string) []byte { return element(tagString, []byte(s)) }

// Sequence returns the sequence of elements.
func Sequence(elements ...[]byte) []byte { return element(tagSequence, elements...) }

// Application returns the application element with a number.
func Application(n int, e []byte) []byte { return wrapped(tagApplication, n, e) }

// Tagged returns the tagged element with a number.
func Tagged(n int, e []byte) []byte { return wrapped(tagTagged, n, e) }

// wrapped returns an element around another one, or nothing if that is absent.
func wrapped(tag, n int, e []byte) []byte {
	if n < 0 || n > maxTag || len(e) == 0 {
		return nil
	}
	return element(byte(tag+n), e)
}

// triple returns the encoding of a profile, a version and bytes.
func triple(profile, version int, b []byte) []byte {
	return all(Tagged(0, Integer(profile)), Tagged(1, Integer(version)), Tagged(2, Octets(b)))
}

// Key returns the encoding of a key.
func Key(k api.Key) []byte { return triple(k.Profile, k.Version, k.Bytes) }

// Sealed returns the encoding of a sealed string.
func Sealed(s api.Sealed) []byte { return triple(s.Profile, s.Version, s.Bytes) }

// Data returns the encoding of data.
func Data(l []api.Data) []byte {
	if len(l) > api.MaxList {
		return nil
	}
	elements := make([][]byte, len(l))
	for i, d := range l {
		elements[i] = all(Tagged(0, Integer(d.Kind)), Tagged(1, Octets(d.Bytes)))
	}
	return all(elements...)
}
