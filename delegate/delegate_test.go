package delegate_test

import (
	"bytes"
	"testing"

	"watchword/api"
	"watchword/apmessage"
	"watchword/authenticator"
	"watchword/database"
	"watchword/delegate"
	"watchword/der"
	"watchword/grant"
	"watchword/message"
	"watchword/name"
	"watchword/pac"
	"watchword/profile"
	"watchword/random"
	"watchword/referral"
	"watchword/route"
	"watchword/ticket"
)

func principal(s string) api.Principal {
	p, e := name.Parse(s)
	if e != api.OK {
		panic(s)
	}
	return p
}

func fill(n int, b byte) []byte { return bytes.Repeat([]byte{b}, n) }

func key(b byte) api.Key { return api.Key{Profile: 1, Version: 1, Bytes: fill(16, b)} }

func session() api.Key { return api.Key{Profile: 1, Bytes: fill(16, 99)} }

// start returns the realm of the chapter's examples.
func start() grant.Realm {
	x := grant.Realm{Config: api.CentreConfig{Realm: "R", Skew: 300, Life: 5000, Allowed: api.FlagForwardable | api.FlagProxiable}, Map: &route.Map{}, Policy: &route.Policy{}, Hosts: &referral.Hosts{}}
	x.Database, _ = database.New("R")
	x.Random, _ = random.New([]byte("seed"))
	for i, s := range []string{"krbtgt/R@R", "u@R", "s@R", "t@R", "w@R", "krbtgt/S@R", "trusted/T@R"} {
		x.Database.Put(api.Entry{Name: principal(s), Keys: []api.KeySet{{Version: 1, Keys: []api.Key{key(byte(i + 1))}}}})
	}
	change(x, "s@R", func(e *api.Entry) { e.Attributes, e.Targets = api.AttrForUser, []api.Principal{principal("t@R")} })
	change(x, "w@R", func(e *api.Entry) { e.Delegates = []api.Principal{principal("s@R")} })
	x.Map.Trust("R", "S")
	return x
}

func change(x grant.Realm, s string, f func(*api.Entry)) {
	e, _ := x.Database.Get(principal(s))
	f(&e)
	if x.Database.Put(e) != api.OK {
		panic(s)
	}
}

// call is what the service s sends.
type call struct {
	r    api.Request
	part api.TicketPart
	user string
	sum  bool // change the checksum of the user
	raw  []byte
	tgs  string
	key  api.Key
}

func forUser() call {
	return call{
		r:    api.Request{Kind: api.RequestGrant, Service: principal("s@R"), Till: 500, Nonce: 9, Profiles: []int{1}, Options: api.FlagForwardable},
		part: api.TicketPart{Flags: api.FlagForwardable | api.FlagPreAuth, Session: session(), Client: principal("s@R"), Times: api.Times{Auth: 10, Start: 10, End: 1000}}, user: "u@R", tgs: "krbtgt/R@R", key: key(1),
	}
}

func (c call) request() api.Request {
	r := c.r
	body, _ := message.Body(r)
	sum, _ := profile.Sum(c.part.Session, api.UsageRequestSum, body)
	a := api.Authenticator{Client: c.part.Client, Time: 100, Sum: sum}
	t, _ := ticket.Seal(c.key, principal(c.tgs), c.part, fill(16, 7))
	s, _ := authenticator.Seal(c.part.Session, api.UsageRequestAuth, a, fill(16, 8))
	b, _ := apmessage.EncodeRequest(api.ServiceRequest{Ticket: t, Sealed: s})
	r.PreAuth = []api.PreAuth{{Kind: 1, Bytes: b}}
	if c.user != "" {
		k := c.part.Session
		if c.sum {
			k = key(88)
		}
		p, e := delegate.ForUser(principal(c.user), k)
		if e != api.OK {
			panic(e)
		}
		if c.raw != nil {
			p.Bytes = c.raw
		}
		r.PreAuth = append(r.PreAuth, p)
	}
	return r
}

func code(t *testing.T, what string, x grant.Realm, c call, want int, client string) api.Result {
	t.Helper()
	before := x.Random.Copy()
	y, e := delegate.Answer(x, c.request(), api.Address{}, 100, 5)
	if e != api.OK || y.Fact.Code != want || !name.Equal(y.Fact.Client, principal(client)) {
		t.Error(what, y.Fact.Code, want, y.Fact.Client, e)
	}
	if want != 0 {
		a, _ := before.Bytes(4)
		b, _ := x.Random.Copy().Bytes(4)
		if y.Failure.Code != want || !name.Equal(y.Failure.Client, principal(client)) || y.Fact.PreAuth != 0 || y.Fact.Micro != 5 || !bytes.Equal(a, b) {
			t.Error(what, y.Failure)
		}
	}
	return y
}

// evidence returns a ticket of u for s with some flags and times.
func evidence(x grant.Realm, f api.Flags, times api.Times) api.Ticket {
	b, _ := pac.Sign(api.Pac{Client: principal("u@R"), Auth: times.Auth, User: 7}, key(3), key(1))
	p := api.TicketPart{Flags: f, Session: key(0), Client: principal("u@R"), Transited: []string{"R"}, Times: times, Addresses: []api.Address{{Kind: 20, Bytes: []byte("h")}}, Data: []api.Data{{Kind: 5}, {Kind: 128, Bytes: b}}}
	p.Session.Version = 0
	t, e := ticket.Seal(key(3), principal("s@R"), p, fill(16, 6))
	if e != api.OK {
		panic(e)
	}
	return t
}

func constrained(x grant.Realm, service string, f api.Flags) call {
	c := forUser()
	c.user = ""
	c.r.Service, c.r.Options = principal(service), api.OptionConstrained
	c.r.Tickets = []api.Ticket{evidence(x, f, api.Times{Auth: 20, Start: 30, End: 400})}
	return c
}

func TestOf(t *testing.T) {
	user := []api.PreAuth{{Kind: 3}, {Kind: 129}}
	for i, v := range []struct {
		r    api.Request
		want delegate.Kind
	}{{api.Request{Kind: 12}, 0}, {api.Request{Kind: 12, PreAuth: user}, 1}, {api.Request{Kind: 12, Options: api.OptionConstrained}, 2}, {api.Request{Kind: 12, PreAuth: user, Options: api.OptionConstrained}, 1}, {api.Request{Kind: 10, PreAuth: user, Options: api.OptionConstrained}, 0}} {
		if k := delegate.Of(v.r); k != v.want {
			t.Error(i, k)
		}
	}
	p, e := delegate.ForUser(principal("u@R"), session())
	b, _ := name.Encode(principal("u@R"))
	sum, _ := profile.Sum(session(), api.UsageForUser, b)
	if e != api.OK || p.Kind != 129 || !bytes.Equal(p.Bytes, der.Sequence(der.Tagged(0, b), der.Tagged(1, der.Octets(sum)))) {
		t.Error(p, e)
	}
	_, e = delegate.ForUser(api.Principal{}, session())
	_, f := delegate.ForUser(principal("u@R"), api.Key{})
	if e != api.ErrArg || f != api.ErrArg {
		t.Error(e, f)
	}
}

func TestAllowed(t *testing.T) {
	s := api.Entry{Name: principal("s@R"), Targets: []api.Principal{principal("x@R"), principal("t@R")}}
	for i, v := range []struct {
		target   api.Entry
		evidence api.Flags
		ok       bool
		code     int
	}{{api.Entry{Name: principal("t@R")}, api.FlagForwardable, true, 0}, {api.Entry{Name: principal("t@R")}, 0, false, api.CodeBadOption}, {api.Entry{Name: principal("w@R")}, api.FlagForwardable, false, api.CodePolicy}, {api.Entry{Name: principal("w@R"), Delegates: []api.Principal{principal("s@R")}}, 0, true, 0}, {api.Entry{Name: principal("t@R"), Delegates: []api.Principal{principal("s@R")}}, 0, true, 0}, {api.Entry{}, 0, false, api.CodePolicy}} {
		if ok, code := delegate.Allowed(s, v.target, v.evidence); ok != v.ok || code != v.code {
			t.Error(i, ok, code)
		}
	}
}

func TestForUser(t *testing.T) {
	x := start()
	y := code(t, "ticket", x, forUser(), 0, "u@R")
	p, e := ticket.Open(key(3), y.Reply.Ticket)
	b, _ := pac.Find(p.Data)
	q, f := pac.Verify(b, key(3), key(1))
	if e != api.OK || f != api.OK || !pac.Equal(q, api.Pac{Client: principal("u@R"), Auth: 10}) || len(p.Data) != 1 || p.Flags&api.FlagForwardable == 0 || !name.Equal(p.Client, principal("u@R")) || !name.Equal(y.Reply.Ticket.Service, principal("s@R")) || p.Times.Auth != 10 || len(p.Transited) != 0 || y.Fact.PreAuth != 1 {
		t.Error(p, e, f)
	}
	change(x, "s@R", func(e *api.Entry) { e.Attributes = 0 })
	y = code(t, "not forwardable", x, forUser(), 0, "u@R")
	if p, _ := ticket.Open(key(3), y.Reply.Ticket); p.Flags&api.FlagForwardable != 0 {
		t.Error(p.Flags)
	}
	n, _ := name.Encode(principal("u@R"))
	for _, v := range []struct {
		what   string
		change func(grant.Realm, *call)
		code   int
	}{
		{"service", func(_ grant.Realm, c *call) { c.r.Service = principal("t@R") }, api.CodeBadMatch}, {"sum", func(_ grant.Realm, c *call) { c.sum = true }, api.CodeModified}, {"realm", func(_ grant.Realm, c *call) { c.user = "u@S" }, api.CodeWrongRealm}, {"unknown", func(_ grant.Realm, c *call) { c.user = "x@R" }, api.CodeClientUnknown}, {"disabled", func(x grant.Realm, _ *call) {
			change(x, "u@R", func(e *api.Entry) { e.Attributes = api.AttrDisabled })
		}, api.CodeClientRevoked}, {"expired", func(x grant.Realm, _ *call) { change(x, "u@R", func(e *api.Entry) { e.Expires = 100 }) }, api.CodeClientExpired},
		{"renew", func(_ grant.Realm, c *call) { c.r.Options = api.OptionRenew; c.sum = true }, api.CodeBadOption}, {"validate", func(_ grant.Realm, c *call) { c.r.Options = api.OptionValidate }, api.CodeBadOption}, {"raw", func(_ grant.Realm, c *call) { c.raw = []byte{1} }, api.CodeMessage}, {"raw", func(_ grant.Realm, c *call) { c.raw = der.Sequence(der.Tagged(0, n)) }, api.CodeMessage}, {"raw", func(_ grant.Realm, c *call) {
			c.raw = der.Sequence(der.Tagged(0, n), der.Tagged(1, der.Octets(nil)), der.Tagged(2, der.Bool(true)))
		}, api.CodeMessage}, {"empty sum", func(_ grant.Realm, c *call) { c.raw = der.Sequence(der.Tagged(0, n), der.Tagged(1, der.Octets(nil))) }, api.CodeModified}, {"trailing", func(_ grant.Realm, c *call) {
			c.raw = append(der.Sequence(der.Tagged(0, n), der.Tagged(1, der.Octets(nil))), 0)
		}, api.CodeMessage}, {"no keys", func(x grant.Realm, _ *call) { change(x, "s@R", func(e *api.Entry) { e.Keys = nil }) }, api.CodeNoKey},
		{"unknown", func(_ grant.Realm, c *call) { c.user = "x@R" }, api.CodeClientUnknown}, {"alias", func(x grant.Realm, c *call) {
			change(x, "u@R", func(e *api.Entry) { e.Aliases = []api.Principal{principal("alias@R")} })
			c.user = "alias@R"
		}, api.CodeClientUnknown},
	} {
		x, c := start(), forUser()
		v.change(x, &c)
		code(t, v.what, x, c, v.code, "s@R")
	}
	c := forUser()
	c.tgs, c.key, c.part.Client = "krbtgt/R@T", key(7), principal("s@T")
	code(t, "foreign", start(), c, api.CodePolicy, "s@T")
	late := forUser()
	late.part.Times.End = 11
	y, e1 := delegate.Answer(start(), late.request(), api.Address{}, 999, 5)
	if e1 != api.OK || y.Fact.Code != api.CodeTicketExpired || !name.Equal(y.Fact.Client, principal("s@R")) {
		t.Error(y.Fact, e1)
	}
	plain := forUser()
	plain.user = ""
	code(t, "plain", start(), plain, 0, "s@R")
}

func TestConstrained(t *testing.T) {
	x := start()
	y := code(t, "t", x, constrained(x, "t@R", api.FlagForwardable|api.FlagInitial), 0, "u@R")
	p, e := ticket.Open(key(4), y.Reply.Ticket)
	b, _ := pac.Find(p.Data)
	q, f := pac.Verify(b, key(4), key(1))
	if e != api.OK || f != api.OK || !pac.Equal(q, api.Pac{Client: principal("u@R"), Auth: 20, User: 7, Via: []api.Principal{principal("s@R")}}) || p.Times != (api.Times{Auth: 20, Start: 100, End: 400}) || p.Flags&api.FlagInitial != 0 || len(p.Data) != 2 || len(p.Transited) != 1 || !name.Equal(y.Reply.Ticket.Service, principal("t@R")) {
		t.Error(p, q, e, f)
	}
	code(t, "w", x, constrained(x, "w@R", 0), 0, "u@R")
	c := constrained(x, "t@R", api.FlagForwardable)
	c.r.Options |= api.FlagForwardable | api.FlagProxiable
	y = code(t, "options", x, c, 0, "u@R")
	if p, _ := ticket.Open(key(4), y.Reply.Ticket); p.Flags&(api.FlagForwardable|api.FlagProxiable) != api.FlagForwardable {
		t.Error(p.Flags)
	}
	times := func(f api.Flags, t api.Times) func(grant.Realm, *call) {
		return func(x grant.Realm, c *call) { c.r.Tickets = []api.Ticket{evidence(x, f, t)} }
	}
	part := api.TicketPart{Flags: api.FlagForwardable, Session: session(), Client: principal("u@R"), Times: api.Times{Auth: 20, Start: 20, End: 400}}
	sealed := func(data []api.Data) func(grant.Realm, *call) {
		return func(_ grant.Realm, c *call) {
			p := part
			p.Data = data
			x, _ := ticket.Seal(key(3), principal("s@R"), p, fill(16, 6))
			c.r.Tickets = []api.Ticket{x}
		}
	}
	signed := func(p api.Pac, service, realm api.Key) []api.Data {
		b, _ := pac.Sign(p, service, realm)
		return []api.Data{{Kind: 128, Bytes: b}}
	}
	full := api.Pac{Client: principal("u@R"), Auth: 20}
	for range 16 {
		full.Via = append(full.Via, principal("v@R"))
	}
	for _, v := range []struct {
		what   string
		change func(grant.Realm, *call)
		code   int
	}{
		{"x", func(_ grant.Realm, c *call) { c.r.Service = principal("x@R") }, api.CodeServiceUnknown}, {"u", func(_ grant.Realm, c *call) { c.r.Service = principal("u@R") }, api.CodePolicy}, {"referral", func(_ grant.Realm, c *call) { c.r.Service = principal("t@S") }, api.CodeServiceUnknown}, {"not forwardable", times(0, api.Times{Auth: 20, Start: 20, End: 400}), api.CodeBadOption}, {"no ticket", func(_ grant.Realm, c *call) { c.r.Tickets = nil }, api.CodeBadOption}, {"renew", func(_ grant.Realm, c *call) { c.r.Options |= api.OptionRenew; c.r.Tickets = nil }, api.CodeBadOption},
		{"match", func(_ grant.Realm, c *call) { c.r.Tickets[0].Service = principal("t@R") }, api.CodeBadMatch}, {"version", func(_ grant.Realm, c *call) { c.r.Tickets[0].Sealed.Version = 9 }, api.CodeKeyVersion}, {"integrity", func(_ grant.Realm, c *call) { c.r.Tickets[0].Sealed.Bytes[3]++ }, api.CodeIntegrity}, {"no keys", func(x grant.Realm, _ *call) { change(x, "s@R", func(e *api.Entry) { e.Master = 3 }) }, api.CodeKeyVersion}, {"early", times(api.FlagForwardable, api.Times{Auth: 20, Start: 401, End: 500}), api.CodeTicketEarly}, {"invalid", times(api.FlagForwardable|api.FlagInvalid, api.Times{Auth: 20, Start: 20, End: 500}), api.CodeTicketEarly}, {"never", times(api.FlagForwardable, api.Times{Auth: 20, Start: 300, End: 301}), 0},
		{"no data", sealed(nil), api.CodeIntegrity}, {"service", sealed(signed(api.Pac{Client: principal("u@R"), Auth: 20}, key(9), key(1))), api.CodeIntegrity}, {"realm", sealed(signed(api.Pac{Client: principal("u@R"), Auth: 20}, key(3), key(9))), api.CodeIntegrity}, {"bind", sealed(signed(api.Pac{Client: principal("u@R"), Auth: 21}, key(3), key(1))), api.CodeIntegrity}, {"full", sealed(signed(full, key(3), key(1))), api.CodeGeneric}, {"target keys", func(x grant.Realm, _ *call) { change(x, "t@R", func(e *api.Entry) { e.Keys = nil }) }, api.CodeNoKey},
		{"times", func(x grant.Realm, c *call) {
			c.part.Times = api.Times{Auth: 10, Start: 350, End: 1000}
			c.r.Tickets = []api.Ticket{evidence(x, api.FlagForwardable, api.Times{Auth: 20, Start: 20, End: 350})}
		}, api.CodeNeverValid},
	} {
		x := start()
		c := constrained(x, "t@R", api.FlagForwardable)
		v.change(x, &c)
		client := "s@R"
		if v.what == "never" {
			// The evidence is early within the skew, so that the ticket is derived from its start on.
			client, v.code = "u@R", 0
		}
		code(t, v.what, x, c, v.code, client)
	}
	z := start()
	change(z, "t@R", func(e *api.Entry) { e.Aliases = []api.Principal{principal("alias@R")} })
	change(z, "s@R", func(e *api.Entry) { e.Targets = []api.Principal{principal("t@R")} })
	c = constrained(z, "alias@R", api.FlagForwardable)
	code(t, "alias", z, c, api.CodeServiceUnknown, "s@R")
	c.r.Options |= api.OptionCanonical
	if y := code(t, "canonical", z, c, 0, "u@R"); !name.Equal(y.Reply.Ticket.Service, principal("t@R")) {
		t.Error(y.Reply.Ticket.Service)
	}
	c = constrained(x, "t@R", api.FlagForwardable)
	c.part.Times.End = 2000
	y, e1 := delegate.Answer(x, c.request(), api.Address{}, 100, 5)
	if e1 != api.OK || y.Fact.Code != 0 {
		t.Error(y.Fact, e1)
	}
	old := constrained(x, "t@R", api.FlagForwardable)
	old.r.Tickets = []api.Ticket{evidence(x, api.FlagForwardable, api.Times{Auth: 1, Start: 1, End: 2})}
	z = x
	z.Config.Skew = 90
	if y, e := delegate.Answer(z, old.request(), api.Address{}, 100, 5); e != api.OK || y.Fact.Code != api.CodeTicketExpired {
		t.Error(y.Fact, e)
	}
}

func TestErrors(t *testing.T) {
	x := start()
	c := forUser()
	for i, v := range []struct {
		change     func(*grant.Realm, *api.Request)
		now, micro int
		want       api.Errno
	}{{func(x *grant.Realm, _ *api.Request) { x.Map = nil }, -1, 0, api.ErrNil}, {func(*grant.Realm, *api.Request) {}, -1, 0, api.ErrArg}, {func(*grant.Realm, *api.Request) {}, 100, 1000000, api.ErrArg}, {func(_ *grant.Realm, r *api.Request) { r.Kind = 10 }, 100, 0, api.ErrArg}} {
		y, r := x, c.request()
		v.change(&y, &r)
		if z, e := delegate.Answer(y, r, api.Address{}, v.now, v.micro); e != v.want || z.Fact.Kind != 0 {
			t.Error(i, e)
		}
	}
}
