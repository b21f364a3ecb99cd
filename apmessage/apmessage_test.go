package apmessage_test

import (
	"bytes"
	"reflect"
	"testing"

	"watchword/api"
	"watchword/apmessage"
	"watchword/der"
	"watchword/name"
	"watchword/profile"
	"watchword/ticket"
)

func principal(s string) api.Principal {
	p, e := name.Parse(s)
	if e != api.OK {
		panic(s)
	}
	return p
}

func fill(n int, b byte) []byte { return bytes.Repeat([]byte{b}, n) }

func key(b byte) api.Key { return api.Key{Profile: 1, Bytes: fill(16, b)} }

func sequence(l ...[]byte) []byte {
	var all [][]byte
	for i, e := range l {
		all = append(all, der.Tagged(i, e))
	}
	return der.Sequence(all...)
}

func request() api.ServiceRequest {
	return api.ServiceRequest{Mutual: true, Ticket: api.Ticket{Service: principal("s@R"), Sealed: api.Sealed{Profile: 1, Version: 2, Bytes: []byte{1}}}, Sealed: api.Sealed{Profile: 2, Bytes: []byte{2}}}
}

func message() api.SessionMessage {
	return api.SessionMessage{Data: []byte{0x61}, Time: 10, Micro: 7, Seq: 1}
}

func reply() api.ServiceReply { return api.ServiceReply{Time: 10, Micro: 7, Seq: 2} }

func TestRequest(t *testing.T) {
	for i, change := range []func(*api.ServiceRequest){func(*api.ServiceRequest) {}, func(r *api.ServiceRequest) { r.Mutual = false }, func(r *api.ServiceRequest) { r.Sealed.Version = 65535 }, func(r *api.ServiceRequest) { r.Sealed.Bytes = fill(65536, 1) }} {
		r := request()
		change(&r)
		b, e := apmessage.EncodeRequest(r)
		q, f := apmessage.DecodeRequest(b)
		x, _ := ticket.Encode(r.Ticket)
		want := der.Application(14, sequence(der.Integer(5), der.Integer(14), der.Bool(r.Mutual), x, der.Sealed(r.Sealed)))
		if !apmessage.ValidRequest(r) || e != api.OK || f != api.OK || !bytes.Equal(b, want) || !reflect.DeepEqual(r, q) {
			t.Error(i, e, f)
		}
		if n, e := apmessage.Type(b); n != 14 || e != api.OK {
			t.Error(n, e)
		}
	}
	for i, change := range []func(*api.ServiceRequest){func(r *api.ServiceRequest) { r.Ticket = api.Ticket{} }, func(r *api.ServiceRequest) { r.Sealed.Profile = 3 }, func(r *api.ServiceRequest) { r.Sealed.Version = -1 }, func(r *api.ServiceRequest) { r.Sealed.Bytes = fill(65537, 1) }} {
		r := request()
		change(&r)
		if b, e := apmessage.EncodeRequest(r); apmessage.ValidRequest(r) || e != api.ErrArg || len(b) != 0 {
			t.Error(i, e)
		}
	}
	x, _ := ticket.Encode(request().Ticket)
	s := der.Sealed(request().Sealed)
	good := der.Application(14, sequence(der.Integer(5), der.Integer(14), der.Bool(true), x, s))
	for i, b := range [][]byte{nil, {0x6e, 0}, good[:len(good)-1], append(bytes.Clone(good), 0), der.Application(15, sequence(der.Integer(5), der.Integer(14), der.Bool(true), x, s)), der.Application(14, sequence(der.Integer(4), der.Integer(14), der.Bool(true), x, s)), der.Application(14, sequence(der.Integer(5), der.Integer(15), der.Bool(true), x, s)), der.Application(14, sequence(der.Integer(5), der.Integer(14), der.Bool(true), x, s, s)), der.Application(14, sequence(der.Integer(5), der.Integer(14), der.Bool(true), x, der.Sealed(api.Sealed{}))), der.Application(14, append(sequence(der.Integer(5), der.Integer(14), der.Bool(true), x, s), 1, 1, 0)), der.Application(14, sequence(der.Integer(5), der.Integer(14), der.Integer(1), x, s))} {
		if r, e := apmessage.DecodeRequest(b); e != api.ErrFormat || r.Sealed.Profile != 0 {
			t.Error(i, e)
		}
	}
}

func TestReply(t *testing.T) {
	k, c := key(1), fill(16, 3)
	full := api.ServiceReply{Time: 1 << 40, Micro: 999999, Subkey: api.Key{Profile: 2, Bytes: fill(32, 5)}, Seq: 1<<32 - 1}
	for _, r := range []api.ServiceReply{reply(), full, {}} {
		b, e := apmessage.SealReply(k, r, c)
		q, f := apmessage.OpenReply(k, b)
		if !apmessage.ValidReply(r) || e != api.OK || f != api.OK || q.Time != r.Time || q.Micro != r.Micro || q.Seq != r.Seq || !profile.Equal(q.Subkey, r.Subkey) {
			t.Error(r, q, e, f)
		}
		var subkey []byte
		if r.Subkey.Profile != 0 {
			subkey = der.Key(r.Subkey)
		}
		s, _ := profile.Seal(k, 12, c, der.Application(27, sequence(der.Time(r.Time), der.Integer(r.Micro), subkey, der.Integer(r.Seq))))
		if !bytes.Equal(b, der.Application(15, sequence(der.Integer(5), der.Integer(15), der.Sealed(s)))) {
			t.Error(b)
		}
		if q, e := apmessage.OpenReply(key(2), b); e != api.ErrCheck || q.Time != 0 {
			t.Error(e)
		}
		if n, e := apmessage.Type(b); n != 15 || e != api.OK {
			t.Error(n, e)
		}
	}
	for i, change := range []func(*api.ServiceReply){func(r *api.ServiceReply) { r.Time = -1 }, func(r *api.ServiceReply) { r.Time = 1<<40 + 1 }, func(r *api.ServiceReply) { r.Micro = -1 }, func(r *api.ServiceReply) { r.Micro = 1000000 }, func(r *api.ServiceReply) { r.Subkey.Profile = 1 }, func(r *api.ServiceReply) { r.Subkey = key(1); r.Subkey.Version = 1 }, func(r *api.ServiceReply) { r.Seq = -1 }, func(r *api.ServiceReply) { r.Seq = 1 << 32 }} {
		r := reply()
		change(&r)
		if b, e := apmessage.SealReply(k, r, c); apmessage.ValidReply(r) || e != api.ErrArg || len(b) != 0 {
			t.Error(i, e)
		}
	}
	if _, e := apmessage.SealReply(api.Key{}, reply(), c); e != api.ErrArg {
		t.Error(e)
	}
	if _, e := apmessage.SealReply(k, reply(), c[1:]); e != api.ErrArg {
		t.Error(e)
	}
	opening(t, k, 15, 12, func(k api.Key, b []byte) api.Errno {
		r, e := apmessage.OpenReply(k, b)
		if r.Time != 0 {
			t.Error(r)
		}
		return e
	})
}

// opening checks the errors of a message with a sealed part.
func opening(t *testing.T, k api.Key, number int, usage api.Usage, open func(api.Key, []byte) api.Errno) {
	t.Helper()
	c := fill(16, 3)
	wrap := func(plain []byte) []byte {
		s, _ := profile.Seal(k, usage, c, plain)
		return der.Application(number, sequence(der.Integer(5), der.Integer(number), der.Sealed(s)))
	}
	long := api.Sealed{Profile: 1, Bytes: fill(65537, 1)}
	for i, x := range []struct {
		k    api.Key
		b    []byte
		want api.Errno
	}{
		{api.Key{}, nil, api.ErrArg}, {k, nil, api.ErrFormat}, {k, wrap(nil), api.ErrFormat}, {k, wrap([]byte("junk")), api.ErrFormat}, {key(9), wrap(nil), api.ErrCheck}, {key(9), append(wrap(nil), 0), api.ErrFormat}, {key(9), []byte{0x30, 0}, api.ErrFormat},
		{k, der.Application(number, sequence(der.Integer(5), der.Integer(number), der.Sealed(api.Sealed{Profile: 1, Bytes: fill(31, 1)}))), api.ErrShort}, {k, der.Application(number, sequence(der.Integer(5), der.Integer(number), der.Sealed(api.Sealed{Profile: 2, Bytes: fill(80, 1)}))), api.ErrNone}, {k, der.Application(number, sequence(der.Integer(5), der.Integer(number), der.Sealed(api.Sealed{Profile: 3, Bytes: fill(80, 1)}))), api.ErrFormat}, {k, der.Application(number, sequence(der.Integer(5), der.Integer(number), der.Sealed(long))), api.ErrFormat}, {k, der.Application(number, sequence(der.Integer(6), der.Integer(number), der.Sealed(api.Sealed{Profile: 1}))), api.ErrFormat}, {k, der.Application(number, sequence(der.Integer(5), der.Integer(3), der.Sealed(api.Sealed{Profile: 1}))), api.ErrFormat},
	} {
		if e := open(x.k, x.b); e != x.want {
			t.Error(number, i, e, x.want)
		}
	}
}

func TestMessages(t *testing.T) {
	k, c := key(1), fill(16, 3)
	for _, m := range []api.SessionMessage{message(), {From: 1}, {Data: fill(32768, 1), Time: 1 << 40, Micro: 999999, Seq: 1<<32 - 1, From: 1}} {
		a, e := apmessage.SealSafe(k, m)
		b, f := apmessage.SealPrivate(k, m, c)
		x, g := apmessage.OpenSafe(k, a)
		y, h := apmessage.OpenPrivate(k, b)
		if !apmessage.ValidMessage(m) || e != api.OK || f != api.OK || g != api.OK || h != api.OK || !bytes.Equal(x.Data, m.Data) || !bytes.Equal(y.Data, m.Data) || x.Seq != m.Seq || y.From != m.From || x.Time != m.Time || y.Micro != m.Micro {
			t.Error(e, f, g, h)
		}
		body := sequence(der.Octets(m.Data), der.Time(m.Time), der.Integer(m.Micro), der.Integer(m.Seq), der.Integer(m.From))
		sum, _ := profile.Sum(k, 15, body)
		s, _ := profile.Seal(k, 13, c, der.Application(28, body))
		if !bytes.Equal(a, der.Application(20, sequence(der.Integer(5), der.Integer(20), body, der.Octets(sum)))) || !bytes.Equal(b, der.Application(21, sequence(der.Integer(5), der.Integer(21), der.Sealed(s)))) {
			t.Error(a, b)
		}
		if x, e := apmessage.OpenSafe(key(2), a); e != api.ErrCheck || len(x.Data)+x.Time != 0 {
			t.Error(e)
		}
		if _, e := apmessage.OpenSafe(k, b); e != api.ErrFormat {
			t.Error(e)
		}
		if _, e := apmessage.OpenPrivate(k, a); e != api.ErrFormat {
			t.Error(e)
		}
		p, e := apmessage.Type(a)
		q, f := apmessage.Type(b)
		if p != 20 || q != 21 || e != api.OK || f != api.OK {
			t.Error(p, q)
		}
	}
	a, _ := apmessage.SealSafe(k, message())
	b, _ := apmessage.SealPrivate(k, message(), c)
	if len(a) != 68 || len(b) != 98 {
		t.Error(len(a), len(b))
	}
	for i, change := range []func(*api.SessionMessage){func(m *api.SessionMessage) { m.Data = fill(32769, 1) }, func(m *api.SessionMessage) { m.Time = -1 }, func(m *api.SessionMessage) { m.Micro = 1000000 }, func(m *api.SessionMessage) { m.Seq = 1 << 32 }, func(m *api.SessionMessage) { m.From = 2 }, func(m *api.SessionMessage) { m.From = -1 }} {
		m := message()
		change(&m)
		a, e := apmessage.SealSafe(k, m)
		b, f := apmessage.SealPrivate(k, m, c)
		if apmessage.ValidMessage(m) || e != api.ErrArg || f != api.ErrArg || len(a)+len(b) != 0 {
			t.Error(i, e, f)
		}
	}
	if _, e := apmessage.SealSafe(api.Key{}, message()); e != api.ErrArg {
		t.Error(e)
	}
	if _, e := apmessage.SealPrivate(k, message(), nil); e != api.ErrArg {
		t.Error(e)
	}
	opening(t, k, 21, 13, func(k api.Key, b []byte) api.Errno { _, e := apmessage.OpenPrivate(k, b); return e })
	good := [][]byte{der.Octets(nil), der.Time(1), der.Integer(2), der.Integer(3), der.Integer(1)}
	safe := func(body []byte, sum []byte) []byte {
		return der.Application(20, sequence(der.Integer(5), der.Integer(20), body, der.Octets(sum)))
	}
	right, _ := profile.Sum(k, 15, sequence(good...))
	for i, x := range []struct {
		k    api.Key
		b    []byte
		want api.Errno
	}{{k, safe(sequence(good...), right), api.OK}, {k, safe(sequence(good...), nil), api.ErrCheck}, {k, safe(sequence(good...), right[1:]), api.ErrCheck}, {key(7), safe(sequence(good...), right), api.ErrCheck}, {api.Key{}, nil, api.ErrArg}, {key(7), safe(sequence(good[:4]...), right), api.ErrFormat}, {key(7), safe(sequence(append(good, der.Bool(true))...), right), api.ErrFormat}, {key(7), safe(sequence(der.Octets(nil), der.Time(1), der.Integer(2), der.Integer(3), der.Integer(2)), right), api.ErrFormat}, {k, append(safe(sequence(good...), right), 0), api.ErrFormat}, {k, nil, api.ErrFormat}} {
		if m, e := apmessage.OpenSafe(x.k, x.b); e != x.want || e != api.OK && m.Time != 0 {
			t.Error(i, e, x.want)
		}
	}
	for c := range 256 {
		n, e := apmessage.Type([]byte{byte(c)})
		if ok := c == 0x6e || c == 0x6f || c == 0x74 || c == 0x75; ok != (e == api.OK) || ok && n != c-0x60 || !ok && (e != api.ErrFormat || n != 0) {
			t.Error(c, n, e)
		}
	}
	if _, e := apmessage.Type(nil); e != api.ErrFormat {
		t.Error(e)
	}
}
