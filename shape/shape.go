// Package shape says which parts of messages are valid, and compares and copies them.
package shape

import (
	"bytes"
	"slices"

	"watchword/api"
	"watchword/profile"
)

// MaxKind is the maximum kind of data.
const MaxKind = 1<<31 - 1

// Times reports whether numbers are times.
func Times(l ...int) bool {
	for _, t := range l {
		if t < 0 || t > api.MaxTime {
			return false
		}
	}
	return true
}

// Micro reports whether a number is one of microseconds of a second.
func Micro(v int) bool { return v >= 0 && v < api.Micros }

// Seq reports whether a number is a sequence number or a nonce.
func Seq(v int) bool { return v >= 0 && v < api.MaxSeq }

// Data reports whether data are valid, if each one may have a number of bytes.
func Data(l []api.Data, limit int) bool {
	for _, d := range l {
		if d.Kind < 0 || d.Kind > MaxKind || len(d.Bytes) > limit {
			return false
		}
	}
	return len(l) <= api.MaxList
}

// Sealed reports whether a sealed string is valid.
func Sealed(s api.Sealed) bool {
	return profile.KeyLen(s.Profile) > 0 && s.Version >= 0 && s.Version <= profile.MaxVersion && len(s.Bytes) <= api.MaxBytes
}

// Session reports whether a key is a valid session key.
func Session(k api.Key) bool { return profile.Valid(k) && k.Version == 0 }

// Subkey reports whether a key is a valid session key or none.
func Subkey(k api.Key) bool { return NoKey(k) || Session(k) }

// NoKey reports whether a key is the zero value.
func NoKey(k api.Key) bool { return k.Profile == 0 && k.Version == 0 && len(k.Bytes) == 0 }

// NoName reports whether a principal is the zero value.
func NoName(p api.Principal) bool { return p.Realm == "" && len(p.Parts) == 0 }

// EqualData reports whether data are equal.
func EqualData(a, b []api.Data) bool {
	return slices.EqualFunc(a, b, func(x, y api.Data) bool { return x.Kind == y.Kind && bytes.Equal(x.Bytes, y.Bytes) })
}

// CopyData returns equal data.
func CopyData(l []api.Data) []api.Data {
	return Copies(l, func(d api.Data) api.Data { return api.Data{Kind: d.Kind, Bytes: Bytes(d.Bytes)} })
}

// EqualSealed reports whether sealed strings are equal.
func EqualSealed(a, b api.Sealed) bool {
	return a.Profile == b.Profile && a.Version == b.Version && bytes.Equal(a.Bytes, b.Bytes)
}

// CopySealed returns an equal sealed string.
func CopySealed(s api.Sealed) api.Sealed {
	return api.Sealed{Profile: s.Profile, Version: s.Version, Bytes: Bytes(s.Bytes)}
}

// Bytes returns equal bytes.
func Bytes(b []byte) []byte { return append([]byte(nil), b...) }

// Copies returns a list of copies of the elements of a list.
func Copies[T any](l []T, copied func(T) T) []T {
	var result []T
	for _, v := range l {
		result = append(result, copied(v))
	}
	return result
}

// All reports whether all elements of a list meet a condition.
func All[T any](l []T, condition func(T) bool) bool {
	return !slices.ContainsFunc(l, func(v T) bool { return !condition(v) })
}

// Different reports whether all elements of a list are different.
func Different[T any](l []T, equal func(a, b T) bool) bool {
	for i, v := range l {
		if slices.ContainsFunc(l[:i], func(w T) bool { return equal(v, w) }) {
			return false
		}
	}
	return true
}
