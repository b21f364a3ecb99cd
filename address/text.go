package address

import (
	"strconv"
	"strings"

	"watchword/api"
)

// joined returns strings, one after the other.
func joined(parts ...string) string {
	var b strings.Builder
	for _, p := range parts {
		b.WriteString(p)
	}
	return b.String()
}

// groups returns what a function makes of each group of n bytes.
func groups[T any](b []byte, n int, f func([]byte) T) []T {
	var l []T
	for i := 0; i+n <= len(b); i += n {
		l = append(l, f(b[i:i+n:i+n]))
	}
	return l
}

// dotted returns the string of an IPv4 address.
func dotted(b []byte) string {
	return strings.Join(groups(b, 1, func(g []byte) string { return strconv.Itoa(int(g[0])) }), ".")
}

// bracketed returns the string of an IPv6 address.
func bracketed(b []byte) string {
	l := groups(b, 2, func(g []byte) string { return strconv.FormatInt(int64(g[0])<<8|int64(g[1]), 16) })
	start, n := zeros(l)
	if n < 2 {
		return joined("[", strings.Join(l, ":"), "]")
	}
	return joined("[", strings.Join(l[:start:start], ":"), "::", strings.Join(l[start+n:], ":"), "]")
}

// zeros returns where the first longest run of zeros begins, and how long it is.
func zeros(l []string) (start, n int) {
	run := 0
	for i, g := range l {
		if g != "0" {
			run = 0
			continue
		}
		if run++; run > n {
			start, n = i-run+1, run
		}
	}
	return start, n
}

// Parse returns the address with a string.
func Parse(s string) (api.Address, api.Errno) {
	var a api.Address
	var again string
	var ok bool
	switch {
	case strings.HasPrefix(s, "host/"):
		a = api.Address{Kind: KindHost, Bytes: []byte(s[len("host/"):])}
	case strings.HasPrefix(s, "["):
		if a.Bytes, ok = parseGroups(strings.Trim(s, "[]")); !ok {
			goto invalid
		}
		a.Kind = KindIPv6
	default:
		a.Kind = KindIPv4
		for word := range strings.SplitSeq(s, ".") {
			v, err := strconv.ParseUint(word, 10, 8)
			if err != nil {
				goto invalid
			}
			a.Bytes = append(a.Bytes, byte(v))
		}
	}
	// Every address has one string only, which must be this one.
	if again, ok = text(a); ok && again == s {
		return a, api.OK
	}
invalid:
	return api.Address{}, api.ErrFormat
}

// parseGroups returns the bytes of groups that are separated by colons, of which some may be left out.
func parseGroups(s string) ([]byte, bool) {
	const all = 8
	head, tail, short := strings.Cut(s, "::")
	first, second := words(head), words(tail)
	missing := all - len(first) - len(second)
	if missing < 0 || !short && missing > 0 {
		return nil, false
	}
	var b []byte
	for _, word := range append(append(first, make([]string, missing)...), second...) {
		v, err := strconv.ParseUint(joined("0", word), 16, 16)
		if err != nil {
			return nil, false
		}
		b = append(b, byte(v>>8), byte(v))
	}
	return b, true
}

// words returns the strings between colons.
func words(s string) []string {
	if s == "" {
		return nil
	}
	return strings.Split(s, ":")
}
