package authenticator_test

import (
	"bytes"
	"slices"
	"testing"

	"watchword/api"
	"watchword/authenticator"
	"watchword/der"
	"watchword/name"
	"watchword/profile"
)

func principal(s string) api.Principal {
	p, e := name.Parse(s)
	if e != api.OK {
		panic(s)
	}
	return p
}

func fill(n int, b byte) []byte { return bytes.Repeat([]byte{b}, n) }

func key(b byte) api.Key { return api.Key{Profile: 1, Bytes: fill(16, b)} }

func small() api.Authenticator {
	return api.Authenticator{Client: principal("a@R"), Time: 10, Micro: 7, Seq: 1}
}

func full() api.Authenticator {
	return api.Authenticator{Client: principal("a/b@R"), Sum: fill(64, 1), Time: 1 << 40, Micro: 999999, Subkey: api.Key{Profile: 2, Bytes: fill(32, 1)}, Seq: 1<<32 - 1, Data: []api.Data{{Kind: 1<<31 - 1, Bytes: fill(4096, 2)}, {}}}
}

type change struct {
	change func(*api.Authenticator)
	valid  bool
}

func changes() map[string]change {
	return map[string]change{
		"client": {func(a *api.Authenticator) { a.Client = principal("c@R") }, true}, "no client": {func(a *api.Authenticator) { a.Client.Realm = "" }, false},
		"sum": {func(a *api.Authenticator) { a.Sum = []byte{9} }, true}, "long sum": {func(a *api.Authenticator) { a.Sum = fill(65, 1) }, false},
		"time": {func(a *api.Authenticator) { a.Time = 11 }, true}, "late": {func(a *api.Authenticator) { a.Time = 1<<40 + 1 }, false}, "early": {func(a *api.Authenticator) { a.Time = -1 }, false},
		"micro": {func(a *api.Authenticator) { a.Micro = 8 }, true}, "micros": {func(a *api.Authenticator) { a.Micro = 1000000 }, false}, "no micro": {func(a *api.Authenticator) { a.Micro = -1 }, false},
		"subkey": {func(a *api.Authenticator) { a.Subkey = key(4) }, true}, "version": {func(a *api.Authenticator) { a.Subkey.Version = 1 }, false}, "profile": {func(a *api.Authenticator) { a.Subkey.Profile = 3 }, false}, "bytes": {func(a *api.Authenticator) { a.Subkey = api.Key{Bytes: fill(16, 1)} }, false},
		"seq": {func(a *api.Authenticator) { a.Seq = 2 }, true}, "minus": {func(a *api.Authenticator) { a.Seq = -1 }, false}, "much": {func(a *api.Authenticator) { a.Seq = 1 << 32 }, false},
		"data": {func(a *api.Authenticator) { a.Data = []api.Data{{Kind: 4}} }, true}, "kind": {func(a *api.Authenticator) { a.Data = []api.Data{{Kind: -1}} }, false}, "kinds": {func(a *api.Authenticator) { a.Data = []api.Data{{Kind: 1 << 31}} }, false}, "long": {func(a *api.Authenticator) { a.Data = []api.Data{{Bytes: fill(4097, 1)}} }, false}, "many": {func(a *api.Authenticator) { a.Data = make([]api.Data, 17) }, false},
	}
}

func TestValues(t *testing.T) {
	k, c := key(1), fill(16, 3)
	for _, base := range []func() api.Authenticator{small, full} {
		if !authenticator.Valid(base()) || !authenticator.Equal(base(), base()) {
			t.Error("base")
		}
		for what, x := range changes() {
			a := base()
			x.change(&a)
			if authenticator.Valid(a) != x.valid || authenticator.Equal(a, base()) || !authenticator.Equal(a, authenticator.Copy(a)) {
				t.Error(what)
			}
			b, e := authenticator.Encode(a)
			s, f := authenticator.Seal(k, 11, a, c)
			if !x.valid {
				if e != api.ErrArg || f != api.ErrArg || len(b)+s.Profile != 0 || authenticator.Check(a, a.Client, 10, 5) != api.ErrArg {
					t.Error(what, e, f)
				}
				continue
			}
			d, g := authenticator.Decode(b)
			o, h := authenticator.Open(k, 11, s)
			plain, i := profile.Open(k, 11, s)
			if e != api.OK || f != api.OK || g != api.OK || h != api.OK || i != api.OK || !authenticator.Equal(a, d) || !authenticator.Equal(a, o) || !bytes.Equal(plain, b) {
				t.Error(what, e, f, g, h, i)
			}
		}
	}
	a := full()
	c2 := authenticator.Copy(a)
	c2.Client.Parts[0], c2.Sum[0], c2.Subkey.Bytes[0], c2.Data[0].Bytes[0] = "x", 9, 9, 9
	if !authenticator.Equal(a, full()) {
		t.Error("shared")
	}
}

func TestEncoding(t *testing.T) {
	client, _ := name.Encode(principal("a@R"))
	l := [][]byte{der.Tagged(0, der.Integer(5)), der.Tagged(1, client), der.Tagged(2, der.Octets([]byte{1})), der.Tagged(3, der.Integer(7)), der.Tagged(4, der.Time(10)), der.Tagged(5, der.Key(key(2))), der.Tagged(6, der.Integer(1)), der.Tagged(7, der.Data([]api.Data{{Kind: 3}}))}
	app := func(l ...[]byte) []byte { return der.Application(2, der.Sequence(l...)) }
	a := small()
	a.Sum, a.Subkey, a.Data = []byte{1}, key(2), []api.Data{{Kind: 3}}
	if b, e := authenticator.Encode(a); !bytes.Equal(b, app(l...)) || e != api.OK {
		t.Error(b, e)
	}
	b, e := authenticator.Encode(small())
	if !bytes.Equal(b, app(l[0], l[1], l[3], l[4], l[6])) || len(b) != 45 || b[0] != 0x62 || e != api.OK {
		t.Error(b, e)
	}
	bad := [][]byte{nil, {0x62, 0}, append(bytes.Clone(b), 0), der.Application(3, der.Sequence(l...)), der.Application(2, append(der.Sequence(l...), 1, 1, 0)), der.Application(2, append(der.Sequence(l...), 0)), app(append(slices.Clone(l), der.Bool(true))...)}
	for i := range b {
		bad = append(bad, b[:i])
	}
	for i, x := range [][]byte{der.Tagged(0, der.Integer(4)), der.Tagged(1, der.String("a")), der.Tagged(2, der.Octets(nil)), der.Tagged(3, der.Integer(1000000)), der.Tagged(4, der.Integer(10)), der.Tagged(5, der.Key(api.Key{})), der.Tagged(6, der.Integer(-1)), der.Tagged(7, der.Data(nil))} {
		changed := slices.Clone(l)
		changed[i] = x
		bad = append(bad, app(changed...))
		if i != 2 && i != 5 && i != 7 {
			bad = append(bad, app(slices.Delete(slices.Clone(l), i, i+1)...))
		}
	}
	for i, x := range bad {
		if a, e := authenticator.Decode(x); e != api.ErrFormat || a.Time != 0 || len(a.Client.Parts) != 0 {
			t.Error(i, a, e)
		}
	}
}

func TestSeal(t *testing.T) {
	k, c := key(1), fill(16, 3)
	s, _ := authenticator.Seal(k, api.UsageService, small(), c)
	if a, e := authenticator.Open(k, api.UsageRequestAuth, s); e != api.ErrCheck || a.Time != 0 {
		t.Error(e)
	}
	if _, e := authenticator.Open(k, 0, s); e != api.ErrArg {
		t.Error(e)
	}
	if _, e := authenticator.Open(api.Key{}, 1, s); e != api.ErrArg {
		t.Error(e)
	}
	if _, e := authenticator.Open(api.Key{Profile: 2, Bytes: fill(32, 1)}, 11, s); e != api.ErrNone {
		t.Error(e)
	}
	for i, x := range []struct {
		k     api.Key
		usage api.Usage
		c     []byte
	}{{api.Key{}, 11, c}, {k, 0, c}, {k, 1024, c}, {k, 11, nil}, {k, 11, fill(17, 1)}} {
		if s, e := authenticator.Seal(x.k, x.usage, small(), x.c); e != api.ErrArg || s.Profile != 0 {
			t.Error(i, e)
		}
	}
	junk, _ := profile.Seal(k, 11, c, []byte("junk"))
	if a, e := authenticator.Open(k, 11, junk); e != api.ErrFormat || a.Time != 0 {
		t.Error(e)
	}
}

func TestCheckCompare(t *testing.T) {
	a := small()
	for i, x := range []struct {
		client    string
		now, skew int
		want      api.Errno
	}{{"a@R", 15, 5, api.OK}, {"a@R", 5, 5, api.OK}, {"a@R", 10, 0, api.OK}, {"a@R", 16, 5, api.ErrAuthTime}, {"a@R", 4, 5, api.ErrAuthTime}, {"b@R", 16, 5, api.ErrAuthClient}, {"b@R", 10, 5, api.ErrAuthClient}, {"a@S", 10, 5, api.ErrAuthClient}, {"b@R", -1, 5, api.ErrArg}, {"b@R", 1<<40 + 1, 5, api.ErrArg}, {"b@R", 10, -1, api.ErrArg}, {"b@R", 10, 86401, api.ErrArg}, {"a@R", 10, 86400, api.OK}} {
		if e := authenticator.Check(a, principal(x.client), x.now, x.skew); e != x.want {
			t.Error(i, e)
		}
	}
	if e := authenticator.Check(a, api.Principal{}, 10, 5); e != api.ErrArg {
		t.Error(e)
	}
	l := []api.Authenticator{{Time: -1, Micro: 9}, {Time: 1, Micro: 8}, {Time: 1, Micro: 9}, {Time: 2, Micro: 0}}
	for i, x := range l {
		for j, y := range l {
			want := min(max(i-j, -1), 1)
			if c := authenticator.Compare(x, y); c != want {
				t.Error(x, y, c)
			}
		}
	}
	if authenticator.Compare(small(), api.Authenticator{Time: 10, Micro: 7}) != 0 {
		t.Error("neither")
	}
}
