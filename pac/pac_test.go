package pac_test

import (
	"bytes"
	"slices"
	"testing"

	"watchword/api"
	"watchword/der"
	"watchword/name"
	"watchword/pac"
	"watchword/profile"
)

func principal(s string) api.Principal {
	p, e := name.Parse(s)
	if e != api.OK {
		panic(s)
	}
	return p
}

func key(b byte, version int) api.Key {
	return api.Key{Profile: 1, Version: version, Bytes: bytes.Repeat([]byte{b}, 16)}
}

func example() api.Pac {
	return api.Pac{Client: principal("a@R"), Auth: 10, User: 1000, Groups: []int{5, 7}}
}

func numbers(n, first int) []int {
	var l []int
	for i := range n {
		l = append(l, first+i)
	}
	return l
}

func elements(l ...[]byte) []byte {
	var all [][]byte
	for i, e := range l {
		all = append(all, der.Tagged(i, e))
	}
	return der.Sequence(all...)
}

func TestValues(t *testing.T) {
	s, r := key(1, 1), key(2, 4)
	for i, x := range []struct {
		change func(*api.Pac)
		valid  bool
	}{
		{func(p *api.Pac) { p.Client = principal("b@R") }, true}, {func(p *api.Pac) { p.Client.Realm = "" }, false}, {func(p *api.Pac) { p.Auth = 1 << 40 }, true}, {func(p *api.Pac) { p.Auth = -1 }, false}, {func(p *api.Pac) { p.User = 1<<31 - 1 }, true}, {func(p *api.Pac) { p.User = 1 << 31 }, false}, {func(p *api.Pac) { p.User = -1 }, false},
		{func(p *api.Pac) { p.Groups = nil }, true}, {func(p *api.Pac) { p.Groups = numbers(64, 0) }, true}, {func(p *api.Pac) { p.Groups = numbers(65, 0) }, false}, {func(p *api.Pac) { p.Groups = []int{7, 5} }, false}, {func(p *api.Pac) { p.Groups = []int{5, 5} }, false}, {func(p *api.Pac) { p.Groups = []int{-1} }, false}, {func(p *api.Pac) { p.Groups = []int{1 << 31} }, false}, {func(p *api.Pac) { p.Groups = []int{1<<31 - 1} }, true},
		{func(p *api.Pac) { p.Via = []api.Principal{principal("s@R"), principal("s@R")} }, true}, {func(p *api.Pac) { p.Via = slices.Repeat([]api.Principal{principal("s@R")}, 16) }, true}, {func(p *api.Pac) { p.Via = slices.Repeat([]api.Principal{principal("s@R")}, 17) }, false}, {func(p *api.Pac) { p.Via = []api.Principal{{}} }, false},
	} {
		p := example()
		x.change(&p)
		b, e := pac.Encode(p)
		d, f := pac.Sign(p, s, r)
		if pac.Valid(p) != x.valid || pac.Equal(p, example()) || !pac.Equal(p, pac.Copy(p)) {
			t.Error(i)
		}
		if !x.valid {
			if e != api.ErrArg || f != api.ErrArg || len(b)+len(d) != 0 || pac.Bind(p, principal("a@R"), 10) != api.ErrArg {
				t.Error(i, e, f)
			}
			continue
		}
		q, g := pac.Decode(b)
		v, h := pac.Verify(d, s, r)
		if e != api.OK || f != api.OK || g != api.OK || h != api.OK || !pac.Equal(p, q) || !pac.Equal(p, v) {
			t.Error(i, e, f, g, h)
		}
	}
	p := example()
	p.Via = []api.Principal{principal("s@R")}
	c := pac.Copy(p)
	c.Client.Parts[0], c.Groups[0], c.Via[0].Parts[0] = "x", 1, "x"
	if p.Client.Parts[0] != "a" || p.Groups[0] != 5 || p.Via[0].Parts[0] != "s" {
		t.Error("shared")
	}
	if !pac.Member(p, 7) || !pac.Member(p, 5) || pac.Member(p, 6) || pac.Member(api.Pac{}, 0) || !pac.Member(api.Pac{Groups: []int{9, 1}}, 1) {
		t.Error("member")
	}
}

func TestEncoding(t *testing.T) {
	client, _ := name.Encode(principal("a@R"))
	via, _ := name.Encode(principal("s@R"))
	p := example()
	b, _ := pac.Encode(p)
	if want := elements(client, der.Time(10), der.Integer(1000), der.Sequence(der.Integer(5), der.Integer(7))); !bytes.Equal(b, want) || len(b) != 44 {
		t.Error(b)
	}
	p.Groups, p.Via = nil, []api.Principal{principal("s@R")}
	if c, _ := pac.Encode(p); !bytes.Equal(c, elements(client, der.Time(10), der.Integer(1000), nil, der.Sequence(via))) {
		t.Error(c)
	}
	bad := [][]byte{nil, append(bytes.Clone(b), 0), {0x30, 0}, elements(client, der.Time(10)), elements(client, der.Time(10), der.Integer(-1)), elements(client, der.Time(10), der.Integer(1), der.Sequence()), elements(client, der.Time(10), der.Integer(1), nil, der.Sequence()), elements(client, der.Time(10), der.Integer(1), der.Sequence(der.Integer(2), der.Integer(1))), elements(client, der.Time(10), der.Integer(1), nil, nil, der.Bool(true))}
	for i := range b {
		bad = append(bad, b[:i])
	}
	for i, x := range bad {
		if q, e := pac.Decode(x); e != api.ErrFormat || q.Auth != 0 {
			t.Error(i, e)
		}
	}
}

func TestSignVerify(t *testing.T) {
	p, s, r := example(), key(1, 1), key(2, 4)
	b, e := pac.Sign(p, s, r)
	body, _ := pac.Encode(p)
	x, _ := profile.Sum(s, 17, body)
	y, _ := profile.Sum(r, 18, x)
	first, second := api.Sealed{Profile: 1, Version: 1, Bytes: x}, api.Sealed{Profile: 1, Version: 4, Bytes: y}
	if !bytes.Equal(b, elements(body, der.Sealed(first), der.Sealed(second))) || len(b) != 116 || e != api.OK {
		t.Error(len(b), e)
	}
	long := api.Key{Profile: 2, Bytes: bytes.Repeat([]byte{3}, 32)}
	for i, v := range []struct {
		b              []byte
		service, realm api.Key
		want           api.Errno
	}{
		{b, s, r, api.OK}, {b, s, api.Key{}, api.OK}, {b, api.Key{}, r, api.OK}, {b, api.Key{}, api.Key{}, api.OK}, {b, key(1, 0), key(2, 0), api.OK}, {b, r, r, api.ErrPacService}, {b, s, s, api.ErrPacRealm}, {b, r, s, api.ErrPacService}, {b, key(1, 2), r, api.ErrPacService}, {b, s, key(2, 3), api.ErrPacRealm}, {b, long, r, api.ErrPacService}, {b, s, long, api.ErrPacRealm}, {b, api.Key{}, key(3, 4), api.ErrPacRealm},
		{b, api.Key{Profile: 1}, r, api.ErrArg}, {b, s, api.Key{Profile: 3}, api.ErrArg}, {nil, api.Key{Version: 1}, r, api.ErrArg}, {[]byte{0x30, 0}, s, r, api.ErrFormat}, {nil, s, r, api.ErrFormat}, {append(bytes.Clone(b), 0), s, r, api.ErrFormat}, {b[:len(b)-1], r, r, api.ErrFormat},
		{elements(body, der.Sealed(first)), r, r, api.ErrFormat}, {elements(body, der.Sealed(first), der.Sealed(second), der.Bool(true)), r, r, api.ErrFormat}, {elements(body, der.Sealed(api.Sealed{Profile: 3, Bytes: x}), der.Sealed(second)), r, r, api.ErrFormat}, {elements(body, der.Sealed(api.Sealed{Profile: 1, Bytes: x[1:]}), der.Sealed(second)), r, r, api.ErrFormat}, {elements(body, der.Sealed(first), der.Sealed(api.Sealed{Profile: 2, Bytes: y})), r, r, api.ErrFormat}, {elements(body, der.Sealed(api.Sealed{Profile: 1, Version: 65536, Bytes: x}), der.Sealed(second)), r, r, api.ErrFormat}, {elements(der.Sequence(), der.Sealed(first), der.Sealed(second)), r, r, api.ErrFormat},
		{elements(body, der.Sealed(api.Sealed{Profile: 1, Version: 0, Bytes: x}), der.Sealed(second)), s, r, api.OK}, {elements(body, der.Sealed(first), der.Sealed(api.Sealed{Profile: 1, Version: 4, Bytes: x})), s, r, api.ErrPacRealm},
	} {
		q, e := pac.Verify(v.b, v.service, v.realm)
		if e != v.want || e == api.OK && !pac.Equal(p, q) || e != api.OK && q.Auth != 0 {
			t.Error(i, e, v.want)
		}
	}
	other := p
	other.User = 1001
	otherBody, _ := pac.Encode(other)
	if _, e := pac.Verify(elements(otherBody, der.Sealed(first), der.Sealed(second)), s, r); e != api.ErrPacService {
		t.Error(e)
	}
	for _, k := range []api.Key{{}, {Profile: 1}} {
		_, e := pac.Sign(p, k, r)
		_, f := pac.Sign(p, s, k)
		if e != api.ErrArg || f != api.ErrArg {
			t.Error(e, f)
		}
	}
}

// big returns authorisation data whose signed data are too long with keys of profile 2 only, and nearly too long otherwise.
func big() api.Pac {
	p := example()
	part := string(bytes.Repeat([]byte("p"), 32))
	long := api.Principal{Parts: []string{part, part, part, part}, Realm: string(bytes.Repeat([]byte("R"), 32))}
	p.Groups = numbers(64, 1<<31-100)
	p.Via = slices.Repeat([]api.Principal{long}, 16)
	return p
}

func TestResign(t *testing.T) {
	p, s, r, o := example(), key(1, 1), key(2, 4), key(9, 2)
	b, _ := pac.Sign(p, s, r)
	via := principal("s@R")
	for _, v := range []api.Principal{{}, via} {
		c, e := pac.Resign(b, s, r, o, v)
		q, f := pac.Verify(c, o, r)
		want := example()
		if v.Realm != "" {
			want.Via = []api.Principal{via}
		}
		if e != api.OK || f != api.OK || !pac.Equal(q, want) {
			t.Error(e, f, q)
		}
		d, g := pac.Resign(c, o, r, s, principal("t@R"))
		q, h := pac.Verify(d, s, r)
		want.Via = append(want.Via, principal("t@R"))
		if g != api.OK || h != api.OK || !pac.Equal(q, want) {
			t.Error(g, h, q)
		}
	}
	full := p
	full.Via = slices.Repeat([]api.Principal{via}, 16)
	fb, _ := pac.Sign(full, s, r)
	for i, x := range []struct {
		b                     []byte
		service, realm, other api.Key
		via                   api.Principal
		want                  api.Errno
	}{
		{b, api.Key{}, r, o, via, api.ErrArg}, {b, s, api.Key{}, o, via, api.ErrArg}, {b, s, r, api.Key{}, via, api.ErrArg}, {b, s, r, o, api.Principal{Realm: "R"}, api.ErrArg}, {nil, s, r, o, via, api.ErrFormat}, {b, r, r, o, via, api.ErrPacService}, {b, s, s, o, via, api.ErrPacRealm}, {fb, s, r, o, via, api.ErrFull}, {fb, s, s, o, via, api.ErrPacRealm}, {fb, s, r, o, api.Principal{}, api.OK},
	} {
		if c, e := pac.Resign(x.b, x.service, x.realm, x.other, x.via); e != x.want || e != api.OK && len(c) != 0 {
			t.Error(i, e)
		}
	}
	lengths := big()
	for ; len(lengths.Groups) > 0; lengths.Groups = lengths.Groups[1:] {
		c, e := pac.Sign(lengths, s, r)
		if body, _ := pac.Encode(lengths); len(body)+72 <= 4096 {
			if e != api.OK {
				t.Error(len(body), e)
			}
			break
		}
		if e != api.ErrLong || len(c) != 0 {
			t.Error(e)
		}
	}
	short := lengths
	c, _ := pac.Sign(short, s, r)
	wide := api.Key{Profile: 2, Bytes: bytes.Repeat([]byte{3}, 32)}
	if len(c) > 4090 {
		if _, e := pac.Resign(c, s, r, wide, api.Principal{}); e != api.ErrLong {
			t.Error(e)
		}
	}
}

func TestBindFindPut(t *testing.T) {
	p := example()
	for i, x := range []struct {
		client api.Principal
		auth   int
		want   api.Errno
	}{{principal("a@R"), 10, api.OK}, {principal("a@R"), 11, api.ErrPacClient}, {principal("b@R"), 10, api.ErrPacClient}, {principal("a@S"), 10, api.ErrPacClient}, {api.Principal{}, 10, api.ErrArg}, {principal("b@R"), -1, api.ErrArg}, {principal("b@R"), 1<<40 + 1, api.ErrArg}} {
		if e := pac.Bind(p, x.client, x.auth); e != x.want {
			t.Error(i, e)
		}
	}
	l := []api.Data{{Kind: 1, Bytes: []byte{1}}, {Kind: 128, Bytes: []byte{2}}, {Kind: 128, Bytes: []byte{3}}}
	if b, ok := pac.Find(l); !bytes.Equal(b, []byte{2}) || !ok {
		t.Error(b, ok)
	}
	first, e := pac.Put(l[1:], []byte{8})
	if b, ok := pac.Find(l[1:]); !ok || !bytes.Equal(b, []byte{2}) || e != api.OK || len(first) != 2 || first[0].Bytes[0] != 8 {
		t.Error(b, ok, first, e)
	}
	if b, ok := pac.Find(l[:1]); len(b) != 0 || ok {
		t.Error(b, ok)
	}
	given := []byte{9}
	c, e := pac.Put(l, given)
	given[0] = 1
	if e != api.OK || len(c) != 3 || c[1].Bytes[0] != 9 || c[2].Bytes[0] != 3 || l[1].Bytes[0] != 2 {
		t.Error(c, e)
	}
	c[0].Bytes[0] = 7
	if l[0].Bytes[0] != 1 {
		t.Error("shared")
	}
	c, e = pac.Put(l[:1], []byte{9})
	if e != api.OK || len(c) != 2 || c[1].Kind != 128 || c[1].Bytes[0] != 9 {
		t.Error(c, e)
	}
	if _, e := pac.Put(make([]api.Data, 16), []byte{9}); e != api.ErrFull {
		t.Error(e)
	}
	if c, e := pac.Put(append(make([]api.Data, 15), api.Data{Kind: 128}), make([]byte, 4096)); e != api.OK || len(c) != 16 {
		t.Error(e)
	}
	if c, e := pac.Put(make([]api.Data, 16), make([]byte, 4097)); e != api.ErrArg || len(c) != 0 {
		t.Error(e)
	}
	if c, e := pac.Put(nil, nil); e != api.OK || len(c) != 1 {
		t.Error(c, e)
	}
}
