package message_test

import (
	"bytes"
	"reflect"
	"slices"
	"strings"
	"testing"

	"watchword/api"
	"watchword/der"
	"watchword/message"
	"watchword/name"
	"watchword/profile"
	"watchword/ticket"
)

func principal(s string) api.Principal {
	p, e := name.Parse(s)
	if e != api.OK {
		panic(s)
	}
	return p
}

func fill(n int, b byte) []byte { return bytes.Repeat([]byte{b}, n) }

func key(b byte) api.Key { return api.Key{Profile: 1, Bytes: fill(16, b)} }

func aTicket() api.Ticket {
	return api.Ticket{Service: principal("s@R"), Sealed: api.Sealed{Profile: 1, Version: 2, Bytes: []byte{1, 2, 3}}}
}

func request() api.Request {
	return api.Request{Kind: api.RequestInitial, Client: principal("a@R"), Service: principal("krbtgt/R@R"), Till: 100, Nonce: 7, Profiles: []int{1, 2}}
}

func fullRequest() api.Request {
	return api.Request{Kind: api.RequestGrant, PreAuth: []api.PreAuth{{Kind: 1<<31 - 1, Bytes: fill(16384, 1)}, {}}, Options: api.FlagForwardable | api.OptionRenewableOK, Service: principal("s/t@R"), From: 5, Till: 1 << 40, Renew: 9, Nonce: 1<<32 - 1, Profiles: []int{1<<31 - 1, 0}, Addresses: []api.Address{{Kind: 20, Bytes: []byte("h")}}, Tickets: []api.Ticket{aTicket(), aTicket()}}
}

func reply() api.Reply {
	return api.Reply{Kind: api.RequestGrant, PreAuth: []api.PreAuth{{Kind: 2, Bytes: []byte{5}}}, Client: principal("a@R"), Ticket: aTicket(), Sealed: api.Sealed{Profile: 2, Version: 65535, Bytes: []byte{4}}}
}

func part() api.ReplyPart {
	return api.ReplyPart{Session: key(1), Nonce: 8, Expires: 77, Flags: 0xfff, Times: api.Times{Auth: 1, Start: 2, End: 3, Renew: 4}, Service: principal("s@R"), Addresses: []api.Address{{Kind: 2, Bytes: []byte{1, 2, 3, 4}}}}
}

func failure() api.Failure {
	return api.Failure{Code: 25, Time: 10, Micro: 9, Client: principal("a@R"), Service: principal("krbtgt/R@R"), Text: "a text", Data: []api.PreAuth{{Kind: 19, Bytes: []byte{1}}}}
}

// cases checks a kind of message with changes of a valid value.
func cases[T any](t *testing.T, base func() T, valid func(T) bool, encode func(T) ([]byte, api.Errno), decode func([]byte) (T, api.Errno), copied func(T) T, good, bad []func(*T)) {
	t.Helper()
	for i, change := range append(append([]func(*T){func(*T) {}}, good...), bad...) {
		v := base()
		change(&v)
		ok := i <= len(good)
		b, e := encode(v)
		if valid(v) != ok || ok != (e == api.OK) || !ok && (e != api.ErrArg || len(b) != 0) || !reflect.DeepEqual(normal(copied(v)), normal(v)) {
			t.Error(i, e, v)
			continue
		}
		if !ok {
			continue
		}
		w, e := decode(b)
		if e != api.OK || !reflect.DeepEqual(normal(v), normal(w)) {
			t.Error(i, e, v, w)
		}
		again, _ := encode(w)
		if !bytes.Equal(b, again) {
			t.Error(i)
		}
		var zero T
		for _, x := range [][]byte{nil, append(bytes.Clone(b), 0), b[:len(b)-1], b[:3], append([]byte{b[0] ^ 1}, b[1:]...), {b[0], 0}, {b[0], 2, 0x30, 0}, {0x30, 0}} {
			if w, e := decode(x); e != api.ErrFormat || !reflect.DeepEqual(w, zero) {
				t.Error(i, e, w)
			}
		}
		for j := range b {
			x := bytes.Clone(b)
			x[j] ^= 0x41
			if w, e := decode(x); e == api.OK {
				if again, f := encode(w); f != api.OK || !bytes.Equal(again, x) {
					t.Error(i, j, "another encoding")
				}
			}
			if j > 300 {
				break
			}
		}
	}
}

// normal returns a value whose empty slices are nil.
func normal(v any) any {
	switch x := v.(type) {
	case api.Request:
		x.PreAuth, x.Profiles, x.Addresses, x.Tickets = some(x.PreAuth), some(x.Profiles), some(x.Addresses), some(x.Tickets)
		for i := range x.PreAuth {
			x.PreAuth[i].Bytes = some(x.PreAuth[i].Bytes)
		}
		x.Client.Parts = some(x.Client.Parts)
		return x
	case api.Reply:
		x.PreAuth = some(x.PreAuth)
		return x
	case api.ReplyPart:
		x.Addresses = some(x.Addresses)
		return x
	case api.Failure:
		x.Data, x.Client.Parts = some(x.Data), some(x.Client.Parts)
		return x
	}
	return v
}

func some[T any](l []T) []T {
	if len(l) == 0 {
		return nil
	}
	return slices.Clone(l)
}

func TestRequests(t *testing.T) {
	type R = api.Request
	for _, base := range []func() R{request, fullRequest} {
		cases(t, base, message.ValidRequest, message.EncodeRequest, message.DecodeRequest, message.CopyRequest, []func(*R){
			func(r *R) { r.PreAuth = nil }, func(r *R) { r.PreAuth = make([]api.PreAuth, 16) }, func(r *R) { r.Options = 0 }, func(r *R) { r.Service = principal("x@Y") }, func(r *R) { r.From = 1 << 40 }, func(r *R) { r.Till = 0 }, func(r *R) { r.Renew = 0 }, func(r *R) { r.Nonce = 0 }, func(r *R) { r.Profiles = []int{5} }, func(r *R) { r.Profiles = []int{1, 2, 3, 4, 5, 6, 7, 8, 9, 10, 11, 12, 13, 14, 15, 16} }, func(r *R) { r.Addresses = nil }, func(r *R) { r.Tickets = []api.Ticket{aTicket()} }, func(r *R) { r.Tickets = slices.Repeat([]api.Ticket{aTicket()}, 16) }, func(r *R) { r.Addresses = []api.Address{{Kind: 20, Bytes: []byte("z")}} },
		}, []func(*R){
			func(r *R) { r.Kind = 11 }, func(r *R) { r.Kind = 0 }, func(r *R) { r.Kind = 22 - r.Kind }, func(r *R) { r.PreAuth = make([]api.PreAuth, 17) }, func(r *R) { r.PreAuth = []api.PreAuth{{Kind: -1}} }, func(r *R) { r.PreAuth = []api.PreAuth{{Kind: 1 << 31}} }, func(r *R) { r.PreAuth = []api.PreAuth{{Bytes: fill(16385, 1)}} }, func(r *R) { r.PreAuth = slices.Repeat([]api.PreAuth{{Bytes: fill(16384, 1)}}, 4) },
			func(r *R) { r.Options = api.FlagInitial }, func(r *R) { r.Client = api.Principal{Realm: "R"} }, func(r *R) { r.Service = api.Principal{} }, func(r *R) { r.From = -1 }, func(r *R) { r.Till = 1<<40 + 1 }, func(r *R) { r.Renew = -1 }, func(r *R) { r.Nonce = 1 << 32 }, func(r *R) { r.Nonce = -1 }, func(r *R) { r.Profiles = nil }, func(r *R) { r.Profiles = []int{1, 1} }, func(r *R) { r.Profiles = []int{-1} }, func(r *R) { r.Profiles = []int{1 << 31} },
			func(r *R) { r.Profiles = []int{1, 2, 3, 4, 5, 6, 7, 8, 9, 10, 11, 12, 13, 14, 15, 16, 17} }, func(r *R) { r.Addresses = []api.Address{{}} }, func(r *R) { r.Tickets = make([]api.Ticket, 1) }, func(r *R) { r.Tickets = slices.Repeat([]api.Ticket{aTicket()}, 17) },
		})
	}
	client := fullRequest()
	client.Client = principal("a@R")
	if message.ValidRequest(client) {
		t.Error("a client in a grant request")
	}
	r := request()
	body, e := message.Body(r)
	b, f := message.EncodeRequest(r)
	if len(body) != 76 || len(b) != 92 || b[0] != 0x6a || e != api.OK || f != api.OK {
		t.Error(len(body), len(b), e, f)
	}
	p, _ := name.Encode(r.Client)
	q, _ := name.Encode(r.Service)
	want := der.Sequence(der.Tagged(0, der.Bits(0)), der.Tagged(1, p), der.Tagged(2, q), der.Tagged(4, der.Time(100)), der.Tagged(6, der.Integer(7)), der.Tagged(7, der.Sequence(der.Integer(1), der.Integer(2))))
	if !bytes.Equal(body, want) || !bytes.Equal(b, der.Application(10, der.Sequence(der.Tagged(1, der.Integer(5)), der.Tagged(2, der.Integer(10)), der.Tagged(4, want)))) {
		t.Error(body, b)
	}
	r.PreAuth = []api.PreAuth{{Kind: 2}}
	if other, _ := message.Body(r); !bytes.Equal(other, body) {
		t.Error("body")
	}
	if b, e := message.Body(api.Request{}); e != api.ErrArg || len(b) != 0 {
		t.Error(e)
	}
	c := message.CopyRequest(fullRequest())
	d := message.CopyRequest(c)
	d.PreAuth[0].Bytes[0], d.Service.Parts[0], d.Profiles[0], d.Addresses[0].Bytes[0], d.Tickets[0].Sealed.Bytes[0] = 9, "x", 9, 9, 9
	if !reflect.DeepEqual(normal(c), normal(fullRequest())) {
		t.Error("shared")
	}
	for _, x := range [][]byte{der.Application(10, der.Sequence(der.Tagged(1, der.Integer(4)), der.Tagged(2, der.Integer(10)), der.Tagged(4, want))), der.Application(10, der.Sequence(der.Tagged(1, der.Integer(5)), der.Tagged(2, der.Integer(12)), der.Tagged(4, want))), der.Application(10, der.Sequence(der.Tagged(1, der.Integer(5)), der.Tagged(2, der.Integer(10)), der.Tagged(3, der.Data(nil)), der.Tagged(4, want)))} {
		if _, e := message.DecodeRequest(x); e != api.ErrFormat {
			t.Error(e)
		}
	}
}

func TestReplies(t *testing.T) {
	type R = api.Reply
	cases(t, reply, message.ValidReply, message.EncodeReply, message.DecodeReply, message.CopyReply, []func(*R){
		func(r *R) { r.Kind = api.RequestInitial }, func(r *R) { r.PreAuth = nil }, func(r *R) { r.Client = principal("b/c@D") }, func(r *R) { r.Ticket.Service = principal("z@R") }, func(r *R) { r.Sealed.Version = 0 },
	}, []func(*R){
		func(r *R) { r.Kind = 11 }, func(r *R) { r.Kind = 13 }, func(r *R) { r.PreAuth = make([]api.PreAuth, 17) }, func(r *R) { r.Client = api.Principal{} }, func(r *R) { r.Ticket = api.Ticket{} }, func(r *R) { r.Sealed.Profile = 0 }, func(r *R) { r.Sealed.Bytes = fill(65537, 1) }, func(r *R) { r.Sealed.Bytes = fill(65500, 1) },
	})
	p, _ := name.Encode(reply().Client)
	x, _ := ticket.Encode(aTicket())
	want := der.Application(13, der.Sequence(der.Tagged(0, der.Integer(5)), der.Tagged(1, der.Integer(13)), der.Tagged(2, der.Data([]api.Data{{Kind: 2, Bytes: []byte{5}}})), der.Tagged(3, p), der.Tagged(4, x), der.Tagged(5, der.Sealed(reply().Sealed))))
	if b, _ := message.EncodeReply(reply()); !bytes.Equal(b, want) {
		t.Error(b)
	}
	c := message.CopyReply(reply())
	d := message.CopyReply(c)
	d.PreAuth[0].Bytes[0], d.Client.Parts[0], d.Ticket.Sealed.Bytes[0], d.Sealed.Bytes[0] = 9, "x", 9, 9
	if !reflect.DeepEqual(c, reply()) {
		t.Error("shared")
	}
}

func TestParts(t *testing.T) {
	type P = api.ReplyPart
	c := fill(16, 3)
	for _, kind := range []api.RequestKind{10, 12} {
		encode := func(p P) ([]byte, api.Errno) { return message.EncodePart(kind, p) }
		decode := func(b []byte) (P, api.Errno) { return message.DecodePart(kind, b) }
		cases(t, part, message.ValidPart, encode, decode, message.CopyPart, []func(*P){
			func(p *P) { p.Session = key(9) }, func(p *P) { p.Nonce = 1<<32 - 1 }, func(p *P) { p.Expires = 0 }, func(p *P) { p.Flags = 0 }, func(p *P) { p.Times.Renew = 0 }, func(p *P) { p.Service = principal("b@C") }, func(p *P) { p.Addresses = nil },
		}, []func(*P){
			func(p *P) { p.Session.Version = 1 }, func(p *P) { p.Session = api.Key{} }, func(p *P) { p.Nonce = 1 << 32 }, func(p *P) { p.Nonce = -1 }, func(p *P) { p.Expires = -1 }, func(p *P) { p.Expires = 1<<40 + 1 }, func(p *P) { p.Flags = api.OptionRenew }, func(p *P) { p.Times.End = 2 }, func(p *P) { p.Service = api.Principal{} }, func(p *P) { p.Addresses = []api.Address{{}} },
		})
		usage := api.Usage(3)
		if kind == 12 {
			usage = 8
		}
		s, e := message.SealPart(kind, key(2), part(), c)
		b, f := profile.Open(key(2), usage, s)
		right, _ := message.EncodePart(kind, part())
		p, g := message.OpenPart(kind, key(2), s)
		if e != api.OK || f != api.OK || g != api.OK || !bytes.Equal(b, right) || b[0] != byte(0x60+25+(kind-10)/2) || !reflect.DeepEqual(p, part()) {
			t.Error(kind, e, f, g, b[0])
		}
		if _, e := message.OpenPart(22-kind, key(2), s); e != api.ErrCheck {
			t.Error(e)
		}
		if p, e := message.DecodePart(22-kind, right); e != api.ErrFormat || p.Nonce != 0 {
			t.Error(e)
		}
		if _, e := message.OpenPart(kind, key(3), s); e != api.ErrCheck {
			t.Error(e)
		}
		junk, _ := profile.Seal(key(2), usage, c, []byte("junk"))
		if p, e := message.OpenPart(kind, key(2), junk); e != api.ErrFormat || p.Nonce != 0 {
			t.Error(e)
		}
		if s, e := message.SealPart(kind, key(2), part(), c[:3]); e != api.ErrArg || s.Profile != 0 {
			t.Error(e)
		}
		if s, e := message.SealPart(kind, api.Key{}, part(), c); e != api.ErrArg || s.Profile != 0 {
			t.Error(e)
		}
		if s, e := message.SealPart(kind, key(2), api.ReplyPart{}, c); e != api.ErrArg || s.Profile != 0 {
			t.Error(e)
		}
		for _, other := range []api.RequestKind{0, 11, 13, -1} {
			_, e1 := message.EncodePart(other, part())
			_, e2 := message.DecodePart(other, right)
			_, e3 := message.SealPart(other, key(2), part(), c)
			_, e4 := message.OpenPart(other, key(2), s)
			if e1 != api.ErrArg || e2 != api.ErrArg || e3 != api.ErrArg || e4 != api.ErrArg {
				t.Error(other, e1, e2, e3, e4)
			}
		}
	}
	p := message.CopyPart(part())
	q := message.CopyPart(p)
	q.Session.Bytes[0], q.Service.Parts[0], q.Addresses[0].Bytes[0] = 9, "x", 9
	if !reflect.DeepEqual(p, part()) {
		t.Error("shared")
	}
}

func TestFailures(t *testing.T) {
	type F = api.Failure
	cases(t, failure, message.ValidFailure, message.EncodeFailure, message.DecodeFailure, message.CopyFailure, []func(*F){
		func(f *F) { f.Code = 0 }, func(f *F) { f.Code = 65535 }, func(f *F) { f.Time = 1 << 40 }, func(f *F) { f.Micro = 999999 }, func(f *F) { f.Client = api.Principal{} }, func(f *F) { f.Service = principal("x@R") }, func(f *F) { f.Text = "" }, func(f *F) { f.Text = strings.Repeat("~", 256) }, func(f *F) { f.Data = nil },
	}, []func(*F){
		func(f *F) { f.Code = -1 }, func(f *F) { f.Code = 65536 }, func(f *F) { f.Time = -1 }, func(f *F) { f.Micro = 1000000 }, func(f *F) { f.Micro = -1 }, func(f *F) { f.Client = api.Principal{Realm: "R"} }, func(f *F) { f.Service = api.Principal{} }, func(f *F) { f.Text = strings.Repeat("~", 257) }, func(f *F) { f.Text = "\x1f" }, func(f *F) { f.Text = "\x7f" }, func(f *F) { f.Data = make([]api.PreAuth, 17) }, func(f *F) { f.Data = slices.Repeat([]api.PreAuth{{Bytes: fill(16384, 1)}}, 4) },
	})
	b, _ := message.EncodeFailure(api.Failure{Code: 25, Time: 10, Service: principal("krbtgt/R@R")})
	if len(b) != 58 || b[0] != 0x7e {
		t.Error(len(b), b[0])
	}
	f := message.CopyFailure(failure())
	g := message.CopyFailure(f)
	g.Client.Parts[0], g.Service.Parts[0], g.Data[0].Bytes[0] = "x", "x", 9
	if !reflect.DeepEqual(f, failure()) {
		t.Error("shared")
	}
}

func TestTypePreAuth(t *testing.T) {
	for c := range 256 {
		n, e := message.Type([]byte{byte(c), 1, 2})
		if ok := c >= 0x6a && c <= 0x6d || c == 0x7e; ok != (e == api.OK) || ok && n != c-0x60 || !ok && (e != api.ErrFormat || n != 0) {
			t.Error(c, n, e)
		}
	}
	if _, e := message.Type(nil); e != api.ErrFormat {
		t.Error(e)
	}
	l := []api.PreAuth{{Kind: 2}, {Kind: -5, Bytes: []byte{1}}, {Kind: 2, Bytes: []byte{3}}, {Kind: -5, Bytes: []byte{2}}}
	b, ok := message.PreAuth(l, -5)
	if !bytes.Equal(b, []byte{1}) || !ok {
		t.Error(b, ok)
	}
	b[0] = 9
	if l[1].Bytes[0] != 1 {
		t.Error("shared")
	}
	if b, ok := message.PreAuth(l, 2); len(b) != 0 || !ok {
		t.Error(b, ok)
	}
	if b, ok := message.PreAuth(l, 3); b != nil || ok {
		t.Error(b, ok)
	}
	if _, ok := message.PreAuth(nil, 0); ok {
		t.Error("nothing")
	}
}
