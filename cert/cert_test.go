package cert_test

import (
	"bytes"
	"slices"
	"testing"

	"watchword/api"
	"watchword/cert"
	"watchword/der"
	"watchword/name"
	"watchword/sign"
)

func principal(s string) api.Principal {
	p, e := name.Parse(s)
	if e != api.OK {
		panic(s)
	}
	return p
}

// issue returns a certificate, issued with a private key of group 1.
func issue(serial int, issuer, subject string, from, until int, authority bool, private, public byte) api.Cert {
	key, _ := sign.Public(1, []byte{0, public})
	c, e := cert.Issue(api.Cert{Serial: serial, Issuer: principal(issuer), Subject: principal(subject), From: from, Until: until, Authority: authority, Group: 1, Public: key}, 1, []byte{0, private}, []byte{7})
	if e != api.OK {
		panic(e)
	}
	return c
}

func example() api.Cert { return issue(1, "ca@R", "a@R", 10, 100, false, 6, 2) }

func anchor() api.Anchor {
	return api.Anchor{Name: principal("ca@R"), Group: 1, Public: []byte{4, 0xc1}}
}

func body(c api.Cert) []byte {
	issuer, _ := name.Encode(c.Issuer)
	subject, _ := name.Encode(c.Subject)
	l := [][]byte{der.Integer(c.Serial), issuer, subject, der.Time(c.From), der.Time(c.Until), der.Bool(c.Authority), der.Integer(c.Group), der.Octets(c.Public)}
	for i := range l {
		l[i] = der.Tagged(i, l[i])
	}
	return der.Sequence(l...)
}

type change struct {
	change func(*api.Cert)
	valid  bool
}

func changes() []change {
	return []change{
		{func(c *api.Cert) { c.Serial = 0 }, true}, {func(c *api.Cert) { c.Serial = 1 << 62 }, true}, {func(c *api.Cert) { c.Serial = -1 }, false}, {func(c *api.Cert) { c.Serial = 1<<62 + 1 }, false},
		{func(c *api.Cert) { c.Issuer = principal("x@R") }, true}, {func(c *api.Cert) { c.Issuer = api.Principal{} }, false}, {func(c *api.Cert) { c.Subject = principal("x@R") }, true}, {func(c *api.Cert) { c.Subject.Realm = "r" }, false},
		{func(c *api.Cert) { c.From = 100 }, true}, {func(c *api.Cert) { c.From = 101 }, false}, {func(c *api.Cert) { c.From = -1 }, false}, {func(c *api.Cert) { c.Until = 10 }, true}, {func(c *api.Cert) { c.Until = 9 }, false}, {func(c *api.Cert) { c.Until = 1<<40 + 1 }, false},
		{func(c *api.Cert) { c.Authority = true }, true}, {func(c *api.Cert) { c.Group = 2 }, false}, {func(c *api.Cert) { c.Group = 0 }, false}, {func(c *api.Cert) { c.Public = []byte{0, 4} }, true}, {func(c *api.Cert) { c.Public = []byte{4} }, false}, {func(c *api.Cert) { c.Public = []byte{0xb, 0x3e} }, false},
		{func(c *api.Cert) { c.Signature = nil }, true}, {func(c *api.Cert) { c.Signature = make([]byte, 192) }, true}, {func(c *api.Cert) { c.Signature = make([]byte, 193) }, false},
	}
}

func TestValues(t *testing.T) {
	for i, x := range changes() {
		c := example()
		x.change(&c)
		b, e := cert.Encode(c)
		l, f := cert.EncodeChain([]api.Cert{example(), c})
		_, g := cert.Issue(c, 1, []byte{0, 6}, []byte{7})
		h := cert.Signed(c, 1, []byte{4, 0xc1})
		_, k := cert.Verify([]api.Cert{c}, nil, nil, 50)
		if cert.Valid(c) != x.valid || cert.Equal(c, example()) || !cert.Equal(c, cert.Copy(c)) {
			t.Error(i)
		}
		if !x.valid {
			if e != api.ErrArg || f != api.ErrArg || g != api.ErrArg || h != api.ErrArg || k != api.ErrArg || len(b)+len(l) != 0 {
				t.Error(i, e, f, g, h, k)
			}
			continue
		}
		d, m := cert.Decode(b)
		chain, n := cert.DecodeChain(l)
		if e != api.OK || f != api.OK || g != api.OK || h != api.ErrCertSignature || m != api.OK || n != api.OK || !cert.Equal(c, d) || !slices.EqualFunc(chain, []api.Cert{example(), c}, cert.Equal) {
			t.Error(i, e, f, g, h, m, n)
		}
		if !bytes.Equal(b, der.Sequence(der.Tagged(0, body(c)), der.Tagged(1, der.Octets(c.Signature)))) {
			t.Error(i, b)
		}
	}
	a := example()
	c := cert.Copy(a)
	c.Issuer.Parts[0], c.Subject.Parts[0], c.Public[0], c.Signature[0] = "x", "x", 9, c.Signature[0]+1
	if !cert.Equal(a, example()) {
		t.Error("shared")
	}
	b, _ := cert.Encode(example())
	if len(body(example())) != 76 || len(b) != 88 {
		t.Error(len(b))
	}
}

func TestWrongEncodings(t *testing.T) {
	c := example()
	b, _ := cert.Encode(c)
	s := der.Tagged(1, der.Octets(c.Signature))
	bad := [][]byte{nil, append(bytes.Clone(b), 0), {0x30, 0}, der.Sequence(der.Tagged(0, body(c))), der.Sequence(der.Tagged(0, body(c)), s, s), der.Sequence(s, der.Tagged(0, body(c))), der.Sequence(der.Tagged(0, der.Sequence(body(c))), s), der.Sequence(der.Tagged(0, append(body(c), 1, 1, 0)), s)}
	for i := range b {
		bad = append(bad, b[:i])
	}
	invalid := c
	invalid.Group = 3
	bad = append(bad, der.Sequence(der.Tagged(0, body(invalid)), s))
	for i, x := range bad {
		if d, e := cert.Decode(x); e != api.ErrFormat || d.Serial != 0 {
			t.Error(i, e)
		}
	}
	chain, _ := cert.EncodeChain([]api.Cert{c, c, c, c, c})
	if l, e := cert.DecodeChain(chain); len(l) != 5 || e != api.OK {
		t.Error(len(l), e)
	}
	for i, x := range [][]byte{nil, {0x30, 0}, b, append(bytes.Clone(chain), 0), chain[:len(chain)-1], der.Sequence(b, b, b, b, b, b), der.Sequence(b, body(c))} {
		if l, e := cert.DecodeChain(x); e != api.ErrFormat || len(l) != 0 {
			t.Error(i, e)
		}
	}
	for i, l := range [][]api.Cert{nil, {c, c, c, c, c, c}, {c, {}}} {
		b, e := cert.EncodeChain(l)
		n, f := cert.Verify(l, nil, nil, 50)
		if e != api.ErrArg || f != api.ErrArg || len(b)+n != 0 {
			t.Error(i, e, f)
		}
	}
}

func TestIssueSigned(t *testing.T) {
	c := example()
	if sign.Verify(1, []byte{4, 0xc1}, body(c), c.Signature) != api.OK || cert.Signed(c, 1, []byte{4, 0xc1}) != api.OK {
		t.Error("not signed")
	}
	junk := c
	junk.Signature = []byte("junk")
	if d, e := cert.Issue(junk, 1, []byte{0, 6}, []byte{7}); e != api.OK || !cert.Equal(c, d) {
		t.Error(e)
	}
	if cert.Signed(junk, 1, []byte{4, 0xc1}) != api.ErrCertSignature || cert.Signed(c, 1, []byte{4}) != api.ErrArg || cert.Signed(c, 9, []byte{4, 0xc1}) != api.ErrArg || cert.Signed(api.Cert{}, 1, []byte{4, 0xc1}) != api.ErrArg {
		t.Error("signed")
	}
	for i, x := range []struct {
		group          int
		private, nonce []byte
	}{{0, []byte{0, 6}, []byte{7}}, {1, []byte{6}, []byte{7}}, {1, []byte{0, 6}, nil}, {1, []byte{0, 0}, []byte{7}}} {
		if d, e := cert.Issue(c, x.group, x.private, x.nonce); e != api.ErrArg || d.Serial != 0 {
			t.Error(i, e)
		}
	}
}

func TestVerify(t *testing.T) {
	c := example()
	root := issue(5, "ca@R", "sub@R", 20, 80, true, 6, 9)
	leaf := issue(6, "sub@R", "b@R", 0, 1000, false, 9, 3)
	weak := issue(7, "a@R", "d@R", 10, 100, false, 2, 5)
	forged := leaf
	forged.Serial = 9
	other := api.Anchor{Name: principal("ca@R"), Group: 1, Public: []byte{0, 4}}
	revoke := func(issuer string, serial int) []api.Revocation {
		return []api.Revocation{{Issuer: principal("x@R"), Serial: 1}, {Issuer: principal(issuer), Serial: serial}}
	}
	for i, x := range []struct {
		chain   []api.Cert
		anchors []api.Anchor
		revoked []api.Revocation
		now     int
		index   int
		want    api.Errno
	}{
		{[]api.Cert{c}, []api.Anchor{anchor()}, nil, 10, 0, api.OK}, {[]api.Cert{c}, []api.Anchor{anchor()}, nil, 100, 0, api.OK}, {[]api.Cert{c}, []api.Anchor{anchor()}, nil, 101, 0, api.ErrCertTime}, {[]api.Cert{c}, []api.Anchor{anchor()}, nil, 9, 0, api.ErrCertTime}, {[]api.Cert{c}, []api.Anchor{anchor()}, revoke("ca@R", 1), 50, 0, api.ErrCertRevoked}, {[]api.Cert{c}, nil, nil, 50, 0, api.ErrCertIssuer},
		{[]api.Cert{c}, []api.Anchor{anchor()}, revoke("ca@R", 2), 50, 0, api.OK}, {[]api.Cert{c}, []api.Anchor{anchor()}, revoke("ca@S", 1), 50, 0, api.OK}, {[]api.Cert{c}, []api.Anchor{anchor()}, revoke("ca@R", 1), 101, 0, api.ErrCertTime}, {[]api.Cert{c}, []api.Anchor{other, anchor()}, nil, 50, 0, api.ErrCertSignature}, {[]api.Cert{c}, []api.Anchor{anchor(), other}, nil, 50, 0, api.OK}, {[]api.Cert{c}, []api.Anchor{{Name: principal("cb@R"), Group: 1, Public: []byte{4, 0xc1}}, anchor()}, nil, 50, 0, api.OK},
		{[]api.Cert{leaf, root}, []api.Anchor{anchor()}, nil, 50, 0, api.OK}, {[]api.Cert{leaf, root}, []api.Anchor{anchor()}, nil, 81, 1, api.ErrCertTime}, {[]api.Cert{leaf, root}, []api.Anchor{anchor()}, revoke("ca@R", 5), 50, 1, api.ErrCertRevoked}, {[]api.Cert{leaf, root}, []api.Anchor{anchor()}, revoke("sub@R", 6), 50, 0, api.ErrCertRevoked}, {[]api.Cert{forged, root}, []api.Anchor{anchor()}, nil, 50, 0, api.ErrCertSignature}, {[]api.Cert{leaf, c}, []api.Anchor{anchor()}, nil, 50, 1, api.ErrCertAuthority}, {[]api.Cert{c, root}, []api.Anchor{anchor()}, nil, 50, 0, api.ErrCertIssuer}, {[]api.Cert{weak, c}, []api.Anchor{anchor()}, nil, 50, 1, api.ErrCertAuthority}, {[]api.Cert{leaf}, []api.Anchor{anchor()}, nil, 50, 0, api.ErrCertIssuer}, {[]api.Cert{root, root}, []api.Anchor{anchor()}, nil, 50, 0, api.ErrCertIssuer}, {[]api.Cert{root}, []api.Anchor{anchor()}, nil, 50, 0, api.OK}, {[]api.Cert{weak, c}, []api.Anchor{anchor()}, nil, 500, 1, api.ErrCertTime},
		{[]api.Cert{c}, []api.Anchor{anchor()}, nil, -1, 0, api.ErrArg}, {[]api.Cert{c}, []api.Anchor{anchor()}, nil, 1<<40 + 1, 0, api.ErrArg}, {[]api.Cert{c}, []api.Anchor{anchor(), {}}, nil, 50, 0, api.ErrArg}, {[]api.Cert{c}, []api.Anchor{anchor(), {Group: 1, Public: anchor().Public}}, nil, 50, 0, api.ErrArg}, {[]api.Cert{c}, []api.Anchor{anchor(), {Name: principal("ca@R"), Public: anchor().Public}}, nil, 50, 0, api.ErrArg}, {[]api.Cert{c}, []api.Anchor{{Name: principal("ca@R"), Group: 1, Public: []byte{4}}}, nil, 50, 0, api.ErrArg}, {[]api.Cert{c}, slices.Repeat([]api.Anchor{anchor()}, 65), nil, 50, 0, api.ErrArg}, {[]api.Cert{c}, slices.Repeat([]api.Anchor{anchor()}, 64), make([]api.Revocation, 64), 50, 0, api.OK}, {[]api.Cert{c}, []api.Anchor{anchor()}, make([]api.Revocation, 65), 50, 0, api.ErrArg},
	} {
		if n, e := cert.Verify(x.chain, x.anchors, x.revoked, x.now); n != x.index || e != x.want {
			t.Error(i, n, e)
		}
	}
}
