package timestamp_test

import (
	"bytes"
	"slices"
	"testing"

	"watchword/api"
	"watchword/der"
	"watchword/profile"
	"watchword/timestamp"
)

func fill(n int, b byte) []byte { return bytes.Repeat([]byte{b}, n) }

func key(b byte) api.Key { return api.Key{Profile: 2, Version: 3, Bytes: fill(32, b)} }

func example(t *testing.T) api.PreAuth {
	t.Helper()
	p, e := timestamp.Make(key(1), 1000, 5, fill(16, 2))
	if e != api.OK {
		t.Fatal(e)
	}
	return p
}

func TestMake(t *testing.T) {
	p := example(t)
	s, _ := profile.Seal(key(1), 1, fill(16, 2), der.Sequence(der.Tagged(0, der.Time(1000)), der.Tagged(1, der.Integer(5))))
	if p.Kind != 2 || !bytes.Equal(p.Bytes, der.Sealed(s)) || len(p.Bytes) != 81 {
		t.Error(p)
	}
	for i, x := range []struct {
		key         api.Key
		time, micro int
		confounder  []byte
		want        api.Errno
	}{{key(1), 0, 0, fill(16, 2), api.OK}, {key(1), 1 << 40, 999999, fill(16, 2), api.OK}, {api.Key{}, 1, 1, fill(16, 2), api.ErrArg}, {key(1), -1, 1, fill(16, 2), api.ErrArg}, {key(1), 1<<40 + 1, 1, fill(16, 2), api.ErrArg}, {key(1), 1, -1, fill(16, 2), api.ErrArg}, {key(1), 1, 1000000, fill(16, 2), api.ErrArg}, {key(1), 1, 1, nil, api.ErrArg}, {key(1), 1, 1, fill(17, 2), api.ErrArg}} {
		if p, e := timestamp.Make(x.key, x.time, x.micro, x.confounder); e != x.want || e != api.OK && (p.Kind != 0 || len(p.Bytes) != 0) {
			t.Error(i, e)
		}
	}
}

func TestCheck(t *testing.T) {
	p := example(t)
	other := key(1)
	other.Version = 4
	changed, short, long := p, p, p
	changed.Bytes = bytes.Clone(p.Bytes)
	changed.Bytes[80]++
	short.Bytes = p.Bytes[:80]
	long.Bytes = append(bytes.Clone(p.Bytes), 0)
	for i, x := range []struct {
		key       api.Key
		p         api.PreAuth
		now, skew int
		want      api.Errno
	}{
		{key(1), p, 1000, 0, api.OK}, {key(1), p, 1300, 300, api.OK}, {key(1), p, 700, 300, api.OK}, {key(1), p, 1301, 300, api.ErrSkew}, {key(1), p, 699, 300, api.ErrSkew}, {key(1), p, 1 << 40, 1 << 40, api.OK}, {key(1), p, 1000, -1, api.ErrArg}, {key(1), p, 1000, 1<<40 + 1, api.ErrArg}, {key(1), p, -1, 0, api.ErrArg}, {key(1), p, 1<<40 + 1, 0, api.ErrArg}, {api.Key{}, p, 1000, 0, api.ErrArg}, {key(1), api.PreAuth{Kind: 3, Bytes: p.Bytes}, 1000, 0, api.ErrArg},
		{key(1), changed, 1000, 0, api.ErrCheck}, {key(1), short, 1000, 0, api.ErrShort}, {key(1), long, 1000, 0, api.ErrLong}, {other, p, 1000, 0, api.ErrNone}, {key(3), p, 1000, 0, api.ErrCheck}, {key(1), api.PreAuth{Kind: 2}, 1000, 0, api.ErrShort}, {key(1), api.PreAuth{Kind: 2, Bytes: []byte{0x31, 0}}, 1000, 0, api.ErrFormat}, {key(1), api.PreAuth{Kind: 2, Bytes: der.Sealed(api.Sealed{Profile: 2, Version: 3, Bytes: fill(47, 1)})}, 1000, 0, api.ErrShort},
	} {
		a, b, e := timestamp.Check(x.key, x.p, x.now, x.skew)
		if e != x.want || e == api.OK && (a != 1000 || b != 5) || e != api.OK && a+b != 0 {
			t.Error(i, a, b, e)
		}
		n, c, d, f := timestamp.Find([]api.Key{x.key}, x.p, x.now, x.skew)
		if n != 0 || c != a || d != b || f != e {
			t.Error(i, n, c, d, f)
		}
	}
}

func TestPlaintexts(t *testing.T) {
	one, two := der.Tagged(0, der.Time(1000)), der.Tagged(1, der.Integer(5))
	for i, x := range []struct {
		plain []byte
		want  api.Errno
	}{
		{der.Sequence(one, two), api.OK}, {nil, api.ErrShort}, {[]byte{0x31, 0}, api.ErrFormat}, {[]byte{0x30, 5}, api.ErrShort}, {append(der.Sequence(one, two), 0), api.ErrFormat}, {der.Sequence(), api.ErrFormat}, {der.Sequence(two), api.ErrFormat}, {der.Sequence(one), api.ErrFormat}, {der.Sequence(two, one), api.ErrFormat}, {der.Sequence(one, two, two), api.ErrFormat},
		{der.Sequence([]byte{0xa0, 0}, two), api.ErrShort}, {der.Sequence(der.Tagged(0, der.Integer(3)), two), api.ErrFormat}, {der.Sequence(der.Tagged(0, append(der.Time(1000), 1, 1, 0)), two), api.ErrFormat}, {der.Sequence(one, []byte{0xa1, 0}), api.ErrShort}, {der.Sequence(one, der.Tagged(1, der.Time(3))), api.ErrFormat}, {der.Sequence(one, der.Tagged(1, append(der.Integer(3), 0))), api.ErrFormat},
		{der.Sequence(one, der.Tagged(1, der.Integer(-1))), api.ErrRange}, {der.Sequence(one, der.Tagged(1, der.Integer(1000000))), api.ErrRange}, {der.Sequence(der.Tagged(0, der.Time(9)), der.Tagged(1, der.Integer(1000000))), api.ErrRange}, {der.Sequence(der.Tagged(0, der.Time(9)), two), api.ErrSkew},
	} {
		s, _ := profile.Seal(key(1), 1, fill(16, 2), x.plain)
		a, b, e := timestamp.Check(key(1), api.PreAuth{Kind: 2, Bytes: der.Sealed(s)}, 1000, 10)
		if e != x.want || e != api.OK && a+b != 0 {
			t.Error(i, a, b, e, x.want)
		}
	}
}

func TestFind(t *testing.T) {
	p := example(t)
	for i, x := range []struct {
		keys  []api.Key
		now   int
		index int
		want  api.Errno
	}{{[]api.Key{key(3), key(1)}, 1000, 1, api.OK}, {[]api.Key{key(1), key(1)}, 1000, 0, api.OK}, {[]api.Key{key(3), key(4)}, 1000, 0, api.ErrCheck}, {[]api.Key{{}, key(4)}, 1000, 0, api.ErrArg}, {[]api.Key{key(4), key(1)}, 2000, 0, api.ErrCheck}, {[]api.Key{key(1), key(4)}, 2000, 0, api.ErrSkew}, {nil, -1, 0, api.ErrNone}, {[]api.Key{{}, key(1)}, 1000, 1, api.OK}} {
		n, a, b, e := timestamp.Find(x.keys, p, x.now, 0)
		if n != x.index || e != x.want || e == api.OK && (a != 1000 || b != 5) || e != api.OK && a+b != 0 {
			t.Error(i, n, a, b, e)
		}
	}
}

func TestTimes(t *testing.T) {
	l := []api.PreAuth{{Kind: 1}, {Kind: 2, Bytes: []byte{1}}, {Kind: 3}, {Kind: 2, Bytes: []byte{2}}}
	times := timestamp.Times(l)
	l[1].Bytes[0], l[3].Kind = 9, 9
	for range 2 {
		var got []int
		for i, p := range times {
			got = append(got, i, int(p.Bytes[0]))
			p.Bytes[0] = 7
		}
		if !slices.Equal(got, []int{1, 1, 3, 2}) {
			t.Error(got)
		}
	}
	for i := range times {
		if i != 1 {
			t.Error(i)
		}
		break
	}
	for range timestamp.Times(nil) {
		t.Error("nothing")
	}
}
