package pkinit

import (
	"watchword/api"
	"watchword/cert"
	"watchword/der"
	"watchword/group"
	"watchword/sign"
	"watchword/wire"
)

// elements returns the sequence of elements, which are tagged from 0 on.
func elements(l ...[]byte) []byte {
	all := make([][]byte, len(l))
	for i, e := range l {
		all[i] = der.Tagged(i, e)
	}
	return der.Sequence(all...)
}

// questionPart returns the signed part of a question.
func questionPart(id int, element []byte, nonce, time int, digest []byte) []byte {
	return elements(der.Integer(id), der.Octets(element), der.Integer(nonce), der.Time(time), der.Octets(digest))
}

// responsePart returns the signed part of a response.
func responsePart(id int, element, client []byte, nonce int) []byte {
	return elements(der.Integer(id), der.Octets(element), der.Octets(client), der.Integer(nonce))
}

// write returns the element with a chain, a signed part and its signature.
func write(chain []api.Cert, private, nonce, part []byte) (api.PreAuth, api.Errno) {
	l, e := cert.EncodeChain(chain)
	if e != api.OK || len(nonce) != PrivateLen {
		return api.PreAuth{}, api.ErrArg
	}
	s, e := sign.Sign(chain[0].Group, private, nonce, part)
	if e != api.OK {
		return api.PreAuth{}, e
	}
	return api.PreAuth{Kind: api.PreAuthPublic, Bytes: elements(l, part, der.Octets(s))}, api.OK
}

// signed is what a question or a response consists of.
type signed struct {
	chain     []api.Cert
	signed    []byte // the signed part
	signature []byte
}

// contents returns the bytes of which a reader reads the end.
func contents(b []byte, r *der.Reader) []byte { return b[len(b)-r.Left():] }

// parse returns what the bytes of a question or a response consist of.
func parse(b []byte) (signed, api.Errno) {
	r := der.New(b)
	s, e := r.Sequence()
	if e != api.OK || r.Left() > 0 {
		return signed{}, api.ErrFormat
	}
	var parts [][]byte
	for _, x := range der.Elements(contents(b, s)) {
		inner, present, e := der.New(x).Tagged(len(parts))
		if e != api.OK || !present {
			return signed{}, api.ErrFormat
		}
		parts = append(parts, contents(x, inner))
	}
	if len(parts) != 3 {
		return signed{}, api.ErrFormat
	}
	chain, e := cert.DecodeChain(parts[0])
	if e != api.OK {
		return signed{}, api.ErrFormat
	}
	signature, e := wire.Decode(parts[2], (*der.Reader).Octets)
	if e != api.OK {
		return signed{}, api.ErrFormat
	}
	return signed{chain, parts[1], signature}, api.OK
}

// verify verifies the chain and the signature.
func (m signed) verify(anchors []api.Anchor, revoked []api.Revocation, now int) api.Errno {
	if _, e := cert.Verify(m.chain, anchors, revoked, now); e != api.OK {
		return e
	}
	if sign.Verify(m.chain[0].Group, m.chain[0].Public, m.signed, m.signature) != api.OK {
		return api.ErrCheck
	}
	return api.OK
}

// part is a signed part.
type part struct {
	id, nonce, time         int
	element, client, digest []byte
}

// fields reads the elements of a signed part, the first error of which ends it.
type fields struct {
	*der.Reader
	next int
	e    api.Errno
}

// number reads the next element, which is a number.
func (f *fields) number(value func(*der.Reader) (int, api.Errno)) int {
	v, e := wire.Field(f.Reader, f.next, value)
	f.note(e)
	return v
}

// octets reads the next element, which is a string of bytes.
func (f *fields) octets() []byte {
	b, e := wire.Field(f.Reader, f.next, (*der.Reader).Octets)
	f.note(e)
	return b
}

// note notes an error and goes to the next element.
func (f *fields) note(e api.Errno) {
	f.next++
	if f.e == api.OK {
		f.e = e
	}
}

// end returns the elements if these are all and consist of elements of a group.
func (f *fields) end(p part, members ...[]byte) (part, api.Errno) {
	if f.e != api.OK || f.Left() > 0 {
		return part{}, api.ErrFormat
	}
	for _, b := range members {
		if _, e := group.Element(p.id, b); e != api.OK {
			return part{}, api.ErrFormat
		}
	}
	return p, api.OK
}

// open returns a reader of the elements of a signed part.
func open(b []byte) *fields {
	s, e := wire.Decode(b, (*der.Reader).Sequence)
	return &fields{Reader: s, e: e}
}

// parseQuestion returns the signed part of a question.
func parseQuestion(b []byte) (part, api.Errno) {
	f := open(b)
	p := part{id: f.number((*der.Reader).Integer), element: f.octets(), nonce: f.number((*der.Reader).Integer), time: f.number((*der.Reader).Time), digest: f.octets()}
	return f.end(p, p.element)
}

// parseResponse returns the signed part of a response.
func parseResponse(b []byte) (part, api.Errno) {
	f := open(b)
	p := part{id: f.number((*der.Reader).Integer), element: f.octets(), client: f.octets(), nonce: f.number((*der.Reader).Integer)}
	return f.end(p, p.element, p.client)
}
