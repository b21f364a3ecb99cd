// Package wire reads values that consist of the elements of layer 11 and have exactly one form.
package wire

import (
	"watchword/api"
	"watchword/der"
)

// Field reads the tagged element with a number, which must be present and consist of one value.
func Field[T any](r *der.Reader, n int, value func(*der.Reader) (T, api.Errno)) (T, api.Errno) {
	var none T
	at := r.Left()
	v, present, e := Optional(r, n, value)
	switch {
	case e != api.OK:
		return none, e
	case !present && at == 0:
		return none, api.ErrShort
	case !present:
		return none, api.ErrFormat
	}
	return v, api.OK
}

// Optional reads the tagged element with a number, if it is present; it must consist of one value.
func Optional[T any](r *der.Reader, n int, value func(*der.Reader) (T, api.Errno)) (v T, present bool, e api.Errno) {
	var none T
	inner, present, e := r.Tagged(n)
	if e != api.OK || !present {
		return none, false, e
	}
	v, e = value(inner)
	if e == api.OK && inner.Left() > 0 {
		e = api.ErrFormat
	}
	if e != api.OK {
		return none, false, e
	}
	return v, true, api.OK
}

// Sequence reads a sequence of values of one kind.
func Sequence[T any](value func(*der.Reader) (T, api.Errno)) func(*der.Reader) ([]T, api.Errno) {
	return func(r *der.Reader) ([]T, api.Errno) {
		s, e := r.Sequence()
		if e != api.OK {
			return nil, e
		}
		var l []T
		for s.Left() > 0 {
			v, e := value(s)
			if e != api.OK {
				return nil, e
			}
			l = append(l, v)
		}
		return l, api.OK
	}
}

// Decode reads the value that bytes consist of: ErrLong for trailing bytes.
func Decode[T any](b []byte, value func(*der.Reader) (T, api.Errno)) (T, api.Errno) {
	r := der.New(b)
	v, e := value(r)
	if e == api.OK {
		e = r.End()
	}
	if e != api.OK {
		var none T
		return none, e
	}
	return v, api.OK
}

// Omitted reads the tagged element with a number, which is absent if its value is empty.
func Omitted[T any](r *der.Reader, n int, value func(*der.Reader) (T, api.Errno), empty func(T) bool) (T, api.Errno) {
	v, present, e := Optional(r, n, value)
	if present && empty(v) {
		var none T
		return none, api.ErrFormat
	}
	return v, e
}

// Number reports whether a number is 0.
func Number(v int) bool { return v == 0 }

// List reports whether a list is empty.
func List[T any](l []T) bool { return len(l) == 0 }

// Text reports whether a string is empty.
func Text(s string) bool { return s == "" }
