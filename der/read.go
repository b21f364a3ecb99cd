package der

import "watchword/api"

// input is what a reader reads.
type input struct {
	bytes  []byte
	offset int
	ready  bool // not in the zero value
}

// left returns the number of further bytes.
func (i input) left() int { return len(i.bytes) - i.offset }

// rest returns the further bytes.
func (i input) rest() []byte { return i.bytes[i.offset:len(i.bytes):len(i.bytes)] }

// wrong is the error with which a wrong element leaves by a panic.
type wrong api.Errno

// require panics with an error unless a condition is met.
func require(ok bool, e api.Errno) {
	if !ok {
		panic(wrong(e))
	}
}

// need returns a value, unless there is an error.
func need[T any](v T, e api.Errno) T {
	require(e == api.OK, e)
	return v
}

// measure returns where the contents of the first element of bytes begin and end.
func measure(b []byte) (start, end int, e api.Errno) {
	if len(b) < 2 {
		return 0, 0, api.ErrShort
	}
	start, n := 2, int(b[1])
	if n >= 0x80 {
		more := n - 0x80
		switch {
		case more < 1 || more > 3:
			return 0, 0, api.ErrFormat
		case len(b) < start+more:
			return 0, 0, api.ErrShort
		}
		n = 0
		for _, c := range b[start : start+more] {
			n = n<<8 | int(c)
		}
		// Fewer bytes would do for a smaller number.
		if n < 0x80 || more > 1 && n>>(8*(more-1)) == 0 {
			return 0, 0, api.ErrFormat
		}
		start += more
	}
	if len(b)-start < n {
		return 0, 0, api.ErrShort
	}
	return start, start + n, api.OK
}

// restore resets a reader and sets an error, if a wrong element has left by a panic.
func restore[T any](r *Reader, offset int, left any, v *T, e *api.Errno) {
	if w, ok := left.(wrong); ok {
		var none T
		r.offset = offset
		*v, *e = none, api.Errno(w)
	}
}

// read reads an element with a tag, whose value is parsed from its contents.
func read[T any](r *Reader, tag byte, parse func(contents) T) (v T, e api.Errno) {
	if !r.usable() {
		return v, api.ErrNil
	}
	defer func(offset int) { restore(r, offset, recover(), &v, &e) }(r.offset)
	b := r.rest()
	require(len(b) > 0, api.ErrShort)
	require(b[0] == tag, api.ErrFormat)
	start, end, e := measure(b)
	require(e == api.OK, e)
	v = parse(contents(b[start:end:end]))
	r.offset += end
	return v, api.OK
}

// compound reads a sequence whose elements are read by a function.
func compound[T any](r *Reader, build func(*Reader) T) (v T, e api.Errno) {
	if !r.usable() {
		return v, api.ErrNil
	}
	defer func(offset int) { restore(r, offset, recover(), &v, &e) }(r.offset)
	s := need(r.Sequence())
	v = build(s)
	require(s.Left() == 0, api.ErrFormat)
	return v, api.OK
}

// field reads the tagged element with a number, which must be present and consist of one value.
func field[T any](r *Reader, n int, value func(*Reader) (T, api.Errno)) T {
	inner, present, e := r.Tagged(n)
	require(e == api.OK, e)
	if !present {
		require(r.Left() > 0, api.ErrShort)
		require(false, api.ErrFormat)
	}
	v := need(value(inner))
	require(inner.Left() == 0, api.ErrFormat)
	return v
}

// contents are the contents of an element.
type contents []byte

// boolean parses a boolean.
func (c contents) boolean() bool {
	require(len(c) == 1 && (c[0] == 0 || c[0] == 0xff), api.ErrFormat)
	return c[0] == 0xff
}

// number parses an unsigned number.
func (c contents) number() int {
	v := 0
	for _, b := range c {
		v = v<<8 | int(b)
	}
	return v
}

// integer parses an integer.
func (c contents) integer() int {
	n := len(c)
	require(n >= 1 && n <= 8, api.ErrFormat)
	require(n == 1 || c[0] != 0 || c[1] >= 0x80, api.ErrFormat)
	require(n == 1 || c[0] != 0xff || c[1] < 0x80, api.ErrFormat)
	// Moved to the left end and back, the number gets its sign.
	v := c.number() << (64 - 8*n) >> (64 - 8*n)
	require(v >= -MaxInteger && v <= MaxInteger, api.ErrFormat)
	return v
}

// bits parses flags.
func (c contents) bits() uint32 {
	require(len(c) == 5 && c[0] == 0, api.ErrFormat)
	return uint32(c.number())
}

// time parses a time.
func (c contents) time() int {
	require(len(c) == 6 && c.number() <= api.MaxTime, api.ErrFormat)
	return c.number()
}

// reader returns a reader of contents that are not checked.
func (c contents) reader() *Reader { return New(c) }

// elements returns a reader of contents that must be elements, one after the other.
func (c contents) elements() *Reader {
	rest := c
	for len(rest) > 0 {
		_, end, e := measure(rest)
		require(e == api.OK, api.ErrFormat)
		rest = rest[end:]
	}
	return c.reader()
}
