package pkinit_test

import (
	"bytes"
	"crypto/sha256"
	"slices"
	"testing"

	"watchword/api"
	"watchword/cert"
	"watchword/der"
	"watchword/derive"
	"watchword/group"
	"watchword/message"
	"watchword/name"
	"watchword/pkinit"
	"watchword/profile"
	"watchword/sign"
)

func principal(s string) api.Principal {
	p, e := name.Parse(s)
	if e != api.OK {
		panic(s)
	}
	return p
}

func fill(b byte) []byte { return bytes.Repeat([]byte{b}, 32) }

// chain returns the chain of a subject whose private key is 00 and a byte.
func chain(subject string, private byte) []api.Cert {
	public, _ := sign.Public(1, []byte{0, private})
	c, e := cert.Issue(api.Cert{Serial: int(private), Issuer: principal("ca@R"), Subject: principal(subject), From: 10, Until: 1000, Group: 1, Public: public}, 1, []byte{0, 6}, []byte{7})
	if e != api.OK {
		panic(e)
	}
	return []api.Cert{c}
}

func anchors() []api.Anchor {
	return []api.Anchor{{Name: principal("ca@R"), Group: 1, Public: []byte{4, 0xc1}}}
}

func request() api.Request {
	return api.Request{Kind: api.RequestInitial, Client: principal("u@R"), Service: principal("krbtgt/R@R"), Till: 500, Nonce: 77, Profiles: []int{1}}
}

func ask(t *testing.T, id int) api.PreAuth {
	t.Helper()
	p, e := pkinit.Ask(chain("u@R", 2), []byte{0, 2}, id, fill(3), request(), 100, fill(4))
	if e != api.OK {
		t.Fatal(e)
	}
	return p
}

func elements(l ...[]byte) []byte {
	var all [][]byte
	for i, e := range l {
		all = append(all, der.Tagged(i, e))
	}
	return der.Sequence(all...)
}

// public returns an element with a signed part.
func public(l []api.Cert, private byte, part []byte) api.PreAuth {
	b, _ := cert.EncodeChain(l)
	s, _ := sign.Sign(1, []byte{0, private}, fill(4), part)
	return api.PreAuth{Kind: 16, Bytes: elements(b, part, der.Octets(s))}
}

func digest(r api.Request) []byte {
	b, _ := message.Body(r)
	sum := sha256.Sum256(b)
	return sum[:]
}

func TestExchange(t *testing.T) {
	for id := 1; id <= 4; id++ {
		for number := 1; number <= 2; number++ {
			p := ask(t, id)
			element, _ := pkinit.Element(id, fill(3))
			question := elements(der.Integer(id), der.Octets(element), der.Integer(77), der.Time(100), der.Octets(digest(request())))
			if want := public(chain("u@R", 2), 2, question); p.Kind != 16 || !bytes.Equal(p.Bytes, want.Bytes) {
				t.Error(id, "question")
			}
			q, e := pkinit.Check(p, anchors(), nil, request(), 110, 10)
			if e != api.OK || q.Group != id || q.Nonce != 77 || q.Time != 100 || !bytes.Equal(q.Element, element) || !bytes.Equal(q.Bytes, p.Bytes) {
				t.Error(id, q, e)
			}
			a, k, e := pkinit.Answer(q, chain("krbtgt/R@R", 9), []byte{0, 9}, fill(5), fill(4), number)
			own, _ := pkinit.Element(id, fill(5))
			part := elements(der.Integer(id), der.Octets(own), der.Octets(element), der.Integer(77))
			if want := public(chain("krbtgt/R@R", 9), 9, part); e != api.OK || a.Kind != 16 || !bytes.Equal(a.Bytes, want.Bytes) {
				t.Error(id, e, "response")
			}
			peer, _ := group.Element(id, element)
			x, _ := group.Scalar(id, fill(5))
			shared, _ := group.Exp(id, peer, x)
			secret, _ := group.Bytes(id, shared)
			sum := sha256.Sum256(append(bytes.Clone(p.Bytes), part...))
			b, _ := derive.KDF(secret, []byte("watchword pkinit"), sum[:], profile.KeyLen(number))
			if want := (api.Key{Profile: number, Bytes: b}); !profile.Equal(k, want) {
				t.Error(id, k, want)
			}
			f, e := pkinit.Finish(p, a, anchors(), nil, fill(3), request(), 500, number)
			if e != api.OK || !profile.Equal(f, k) {
				t.Error(id, f, e)
			}
		}
	}
}

func TestElement(t *testing.T) {
	zero, _ := pkinit.Element(1, make([]byte, 32))
	if !bytes.Equal(zero, []byte{0, 4}) {
		t.Error(zero)
	}
	six := make([]byte, 32)
	six[31] = 6
	if b, e := pkinit.Element(1, six); !bytes.Equal(b, []byte{4, 0xc1}) || e != api.OK {
		t.Error(b, e)
	}
	for i, x := range []struct {
		id int
		dh []byte
	}{{0, six}, {5, six}, {1, six[1:]}, {1, append(six, 0)}, {1, nil}} {
		if b, e := pkinit.Element(x.id, x.dh); e != api.ErrArg || len(b) != 0 {
			t.Error(i, e)
		}
	}
}

func TestAskErrors(t *testing.T) {
	grant := request()
	grant.Kind, grant.Client = api.RequestGrant, api.Principal{}
	c := chain("u@R", 2)
	for i, x := range []struct {
		chain     []api.Cert
		private   []byte
		id        int
		dh, nonce []byte
		r         api.Request
		time      int
	}{{nil, []byte{0, 2}, 1, fill(3), fill(4), request(), 1}, {c, []byte{2}, 1, fill(3), fill(4), request(), 1}, {c, []byte{0, 0}, 1, fill(3), fill(4), request(), 1}, {c, []byte{0, 2}, 5, fill(3), fill(4), request(), 1}, {c, []byte{0, 2}, 1, fill(3)[1:], fill(4), request(), 1}, {c, []byte{0, 2}, 1, fill(3), fill(4)[1:], request(), 1}, {c, []byte{0, 2}, 1, fill(3), make([]byte, 32), request(), 1}, {c, []byte{0, 2}, 1, fill(3), fill(4), grant, 1}, {c, []byte{0, 2}, 1, fill(3), fill(4), api.Request{Kind: 10}, 1}, {c, []byte{0, 2}, 1, fill(3), fill(4), request(), -1}, {c, []byte{0, 2}, 1, fill(3), fill(4), request(), 1<<40 + 1}} {
		if p, e := pkinit.Ask(x.chain, x.private, x.id, x.dh, x.r, x.time, x.nonce); e != api.ErrArg || p.Kind != 0 || len(p.Bytes) != 0 {
			t.Error(i, e)
		}
	}
}

func TestCheckErrors(t *testing.T) {
	p := ask(t, 2)
	nonce, client, body, grant := request(), request(), request(), request()
	nonce.Nonce, client.Client, body.Till = 78, principal("v@R"), 501
	grant.Kind, grant.Client = api.RequestGrant, api.Principal{}
	both := nonce
	both.Client = principal("v@R")
	element, _ := pkinit.Element(2, fill(3))
	l := [][]byte{der.Integer(2), der.Octets(element), der.Integer(77), der.Time(100), der.Octets(digest(request()))}
	with := func(i int, b []byte) api.PreAuth {
		changed := append([][]byte(nil), l...)
		changed[i] = b
		return public(chain("u@R", 2), 2, elements(changed...))
	}
	c, _ := cert.EncodeChain(chain("u@R", 2))
	part := elements(l...)
	s, _ := sign.Sign(1, []byte{0, 2}, fill(4), part)
	forged := bytes.Clone(s)
	forged[1] ^= 1
	for i, x := range []struct {
		p         api.PreAuth
		anchors   []api.Anchor
		revoked   []api.Revocation
		r         api.Request
		now, skew int
		want      api.Errno
	}{
		{p, anchors(), nil, request(), 100, 0, api.OK}, {p, append(anchors(), slices.Repeat(anchors(), 63)...), make([]api.Revocation, 64), request(), 100, 0, api.OK}, {p, anchors(), nil, request(), 90, 10, api.OK}, {p, anchors(), nil, request(), 89, 10, api.ErrSkew}, {p, anchors(), nil, request(), 111, 10, api.ErrSkew}, {p, anchors(), nil, nonce, 500, 10, api.ErrPublicNonce}, {p, anchors(), nil, both, 500, 10, api.ErrPublicName}, {p, anchors(), nil, body, 500, 10, api.ErrPublicBody},
		{p, nil, nil, both, 500, 10, api.ErrCertIssuer}, {p, anchors(), []api.Revocation{{Issuer: principal("ca@R"), Serial: 2}}, both, 500, 10, api.ErrCertRevoked}, {p, anchors(), nil, both, 1001, 10, api.ErrCertTime}, {api.PreAuth{Kind: 16, Bytes: elements(c, part, der.Octets(forged))}, anchors(), nil, both, 500, 10, api.ErrCheck}, {api.PreAuth{Kind: 16, Bytes: elements(c, part, der.Octets(nil))}, anchors(), nil, both, 500, 10, api.ErrCheck}, {public(chain("u@R", 2), 3, part), anchors(), nil, both, 500, 10, api.ErrCheck},
		{api.PreAuth{Kind: 2, Bytes: p.Bytes}, anchors(), nil, request(), 100, 0, api.ErrArg}, {api.PreAuth{Kind: 16}, anchors(), nil, grant, 100, 0, api.ErrArg}, {api.PreAuth{Kind: 16}, []api.Anchor{{}}, nil, request(), 100, 0, api.ErrArg}, {api.PreAuth{Kind: 16}, make([]api.Anchor, 65), nil, request(), 100, 0, api.ErrArg}, {api.PreAuth{Kind: 16}, anchors(), make([]api.Revocation, 65), request(), 100, 0, api.ErrArg}, {api.PreAuth{Kind: 16}, anchors(), nil, request(), -1, 0, api.ErrArg}, {api.PreAuth{Kind: 16}, anchors(), nil, request(), 100, -1, api.ErrArg}, {api.PreAuth{Kind: 16}, anchors(), nil, request(), 100, 1<<40 + 1, api.ErrArg},
		{api.PreAuth{Kind: 16}, nil, nil, request(), 100, 0, api.ErrFormat}, {api.PreAuth{Kind: 16, Bytes: append(bytes.Clone(p.Bytes), 0)}, nil, nil, request(), 100, 0, api.ErrFormat}, {api.PreAuth{Kind: 16, Bytes: p.Bytes[:len(p.Bytes)-1]}, nil, nil, request(), 100, 0, api.ErrFormat}, {api.PreAuth{Kind: 16, Bytes: elements(c, part)}, nil, nil, request(), 100, 0, api.ErrFormat}, {api.PreAuth{Kind: 16, Bytes: elements(c, part, der.Octets(s), der.Bool(true))}, nil, nil, request(), 100, 0, api.ErrFormat}, {api.PreAuth{Kind: 16, Bytes: elements(der.Sequence(), part, der.Octets(s))}, nil, nil, request(), 100, 0, api.ErrFormat}, {api.PreAuth{Kind: 16, Bytes: elements(c, append(bytes.Clone(part), 0), der.Octets(s))}, nil, nil, request(), 100, 0, api.ErrFormat}, {api.PreAuth{Kind: 16, Bytes: elements(c, part, der.String(""))}, nil, nil, request(), 100, 0, api.ErrFormat},
		{with(0, der.Integer(5)), nil, nil, request(), 100, 0, api.ErrFormat}, {with(0, der.Integer(4)), nil, nil, request(), 100, 0, api.ErrFormat}, {with(1, der.Octets(element[1:])), nil, nil, request(), 100, 0, api.ErrFormat}, {with(1, der.Octets(make([]byte, 4))), nil, nil, request(), 100, 0, api.ErrFormat}, {with(2, der.Time(77)), nil, nil, request(), 100, 0, api.ErrFormat}, {with(3, der.Integer(100)), nil, nil, request(), 100, 0, api.ErrFormat}, {with(4, der.String("")), nil, nil, request(), 100, 0, api.ErrFormat}, {with(4, der.Octets(nil)), anchors(), nil, request(), 100, 0, api.ErrPublicBody}, {with(2, der.Integer(-77)), anchors(), nil, request(), 100, 0, api.ErrPublicNonce}, {public(chain("u@R", 2), 2, elements(append(l, der.Bool(true))...)), nil, nil, request(), 100, 0, api.ErrFormat}, {public(chain("u@R", 2), 2, elements(l[:4]...)), nil, nil, request(), 100, 0, api.ErrFormat},
	} {
		if q, e := pkinit.Check(x.p, x.anchors, x.revoked, x.r, x.now, x.skew); e != x.want || e != api.OK && (q.Group != 0 || len(q.Bytes) != 0) {
			t.Error(i, e, x.want)
		}
	}
}

func TestAnswerErrors(t *testing.T) {
	q, _ := pkinit.Check(ask(t, 1), anchors(), nil, request(), 100, 0)
	c := chain("krbtgt/R@R", 9)
	for i, x := range []struct {
		change             func(*pkinit.Question)
		chain              []api.Cert
		private, dh, nonce []byte
		number             int
	}{{func(q *pkinit.Question) { q.Group = 2 }, c, []byte{0, 9}, fill(5), fill(4), 1}, {func(q *pkinit.Question) { q.Group = 0 }, c, []byte{0, 9}, fill(5), fill(4), 1}, {func(q *pkinit.Question) { q.Element = nil }, c, []byte{0, 9}, fill(5), fill(4), 1}, {func(q *pkinit.Question) { q.Nonce = -1 }, c, []byte{0, 9}, fill(5), fill(4), 1}, {func(q *pkinit.Question) { q.Nonce = 1 << 32 }, c, []byte{0, 9}, fill(5), fill(4), 1}, {func(*pkinit.Question) {}, nil, []byte{0, 9}, fill(5), fill(4), 1}, {func(*pkinit.Question) {}, c, []byte{9}, fill(5), fill(4), 1}, {func(*pkinit.Question) {}, c, []byte{0, 9}, fill(5)[1:], fill(4), 1}, {func(*pkinit.Question) {}, c, []byte{0, 9}, fill(5), nil, 1}, {func(*pkinit.Question) {}, c, []byte{0, 9}, fill(5), make([]byte, 32), 1}, {func(*pkinit.Question) {}, c, []byte{0, 9}, fill(5), fill(4), 3}, {func(*pkinit.Question) {}, c, []byte{0, 9}, fill(5), fill(4), 0}} {
		changed := q
		x.change(&changed)
		if p, k, e := pkinit.Answer(changed, x.chain, x.private, x.dh, x.nonce, x.number); e != api.ErrArg || p.Kind != 0 || k.Profile != 0 {
			t.Error(i, e)
		}
	}
}

func TestFinishErrors(t *testing.T) {
	p := ask(t, 1)
	q, _ := pkinit.Check(p, anchors(), nil, request(), 100, 0)
	a, _, _ := pkinit.Answer(q, chain("krbtgt/R@R", 9), []byte{0, 9}, fill(5), fill(4), 1)
	wrongName, _, _ := pkinit.Answer(q, chain("s@R", 9), []byte{0, 9}, fill(5), fill(4), 1)
	own, _ := pkinit.Element(1, fill(5))
	part := func(id int, element, client []byte, nonce int) api.PreAuth {
		return public(chain("krbtgt/R@R", 9), 9, elements(der.Integer(id), der.Octets(element), der.Octets(client), der.Integer(nonce)))
	}
	nonce, realm := request(), request()
	nonce.Nonce = 78
	realm.Client = principal("u@S")
	for i, x := range []struct {
		question, response api.PreAuth
		anchors            []api.Anchor
		dh                 []byte
		r                  api.Request
		now, number        int
		want               api.Errno
	}{
		{p, a, anchors(), fill(3), request(), 100, 1, api.OK}, {p, a, anchors(), fill(3), nonce, 100, 1, api.ErrPublicNonce}, {p, a, anchors(), fill(3), realm, 100, 1, api.ErrPublicName}, {p, wrongName, anchors(), fill(9), nonce, 100, 1, api.ErrPublicName}, {p, a, anchors(), fill(9), request(), 100, 1, api.ErrPublicBody}, {p, a, anchors(), fill(9), nonce, 100, 1, api.ErrPublicNonce}, {p, a, nil, fill(9), nonce, 100, 1, api.ErrCertIssuer}, {p, a, anchors(), fill(9), nonce, 5, 1, api.ErrCertTime}, {p, public(chain("krbtgt/R@R", 9), 8, elements(der.Integer(1), der.Octets(own), der.Octets(q.Element), der.Integer(77))), anchors(), fill(9), nonce, 100, 1, api.ErrCheck},
		{ask(t, 2), a, nil, fill(3), request(), 100, 1, api.ErrFormat}, {p, part(1, own[1:], q.Element, 77), nil, fill(3), request(), 100, 1, api.ErrFormat}, {p, part(2, own, q.Element, 77), nil, fill(3), request(), 100, 1, api.ErrFormat}, {p, part(9, own, q.Element, 77), nil, fill(3), request(), 100, 1, api.ErrFormat}, {p, p, nil, fill(3), request(), 100, 1, api.ErrFormat}, {p, api.PreAuth{Kind: 16}, nil, fill(3), request(), 100, 1, api.ErrFormat}, {api.PreAuth{Kind: 16}, a, nil, fill(3), request(), 100, 1, api.ErrFormat}, {p, api.PreAuth{Kind: 16, Bytes: append(bytes.Clone(a.Bytes), 0)}, nil, fill(3), request(), 100, 1, api.ErrFormat},
		{api.PreAuth{Kind: 1, Bytes: p.Bytes}, a, anchors(), fill(3), request(), 100, 1, api.ErrArg}, {p, api.PreAuth{Bytes: a.Bytes}, anchors(), fill(3), request(), 100, 1, api.ErrArg}, {p, a, []api.Anchor{{}}, fill(3), request(), 100, 1, api.ErrArg}, {p, a, anchors(), fill(3)[1:], request(), 100, 1, api.ErrArg}, {p, a, anchors(), fill(3), api.Request{}, 100, 1, api.ErrArg}, {p, a, anchors(), fill(3), request(), -1, 1, api.ErrArg}, {p, a, anchors(), fill(3), request(), 100, 3, api.ErrArg},
	} {
		if k, e := pkinit.Finish(x.question, x.response, x.anchors, nil, x.dh, x.r, x.now, x.number); e != x.want || e != api.OK && k.Profile != 0 {
			t.Error(i, e, x.want)
		}
	}
}
