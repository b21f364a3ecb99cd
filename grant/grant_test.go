package grant_test

import (
	"bytes"
	"slices"
	"testing"

	"watchword/api"
	"watchword/apmessage"
	"watchword/authenticator"
	"watchword/database"
	"watchword/grant"
	"watchword/message"
	"watchword/name"
	"watchword/pac"
	"watchword/profile"
	"watchword/random"
	"watchword/referral"
	"watchword/route"
	"watchword/ticket"
)

func principal(s string) api.Principal {
	p, e := name.Parse(s)
	if e != api.OK {
		panic(s)
	}
	return p
}

func fill(n int, b byte) []byte { return bytes.Repeat([]byte{b}, n) }

func key(b byte) api.Key { return api.Key{Profile: 1, Version: 1, Bytes: fill(16, b)} }

func session() api.Key { return api.Key{Profile: 1, Bytes: fill(16, 99)} }

func keyed(s string, b byte) api.Entry {
	return api.Entry{Name: principal(s), Keys: []api.KeySet{{Version: 1, Keys: []api.Key{key(b)}}}}
}

const all = api.FlagForwardable | api.FlagProxiable | api.FlagMayPostdate | api.FlagRenewable | api.FlagDelegate

func start() grant.Realm {
	x := grant.Realm{Config: api.CentreConfig{Realm: "R", Skew: 300, Life: 5000, Renew: 9000, Allowed: all}, Map: &route.Map{}, Policy: &route.Policy{}, Hosts: &referral.Hosts{}}
	x.Database, _ = database.New("R")
	x.Random, _ = random.New([]byte("seed"))
	for i, s := range []string{"krbtgt/R@R", "u@R", "s@R", "krbtgt/S@R", "trusted/T@R"} {
		x.Database.Put(keyed(s, byte(i+1)))
	}
	x.Map.Trust("R", "S")
	return x
}

func change(x grant.Realm, s string, f func(*api.Entry)) {
	e, _ := x.Database.Get(principal(s))
	f(&e)
	if x.Database.Put(e) != api.OK {
		panic(s)
	}
}

// call is what a client sends.
type call struct {
	r       api.Request
	part    api.TicketPart
	service string
	key     api.Key
	auth    api.Authenticator
	subkey  bool
	sum     []byte // instead of the right one
	usage   api.Usage
	from    api.Address
}

// plain returns a request of u for s with its ticket for krbtgt/R.
func plain() call {
	return call{
		r:       api.Request{Kind: api.RequestGrant, Service: principal("s@R"), Till: 500, Nonce: 9, Profiles: []int{2, 1}},
		part:    api.TicketPart{Flags: api.FlagInitial | api.FlagPreAuth, Session: session(), Client: principal("u@R"), Times: api.Times{End: 1000}},
		service: "krbtgt/R@R", key: key(1), auth: api.Authenticator{Client: principal("u@R"), Time: 100}, usage: api.UsageRequestAuth,
	}
}

// request returns the request of a call.
func (c call) request() api.Request {
	body, _ := message.Body(c.r)
	c.auth.Sum, _ = profile.Sum(c.part.Session, api.UsageRequestSum, body)
	if c.sum != nil {
		c.auth.Sum = c.sum
	}
	if c.subkey {
		c.auth.Subkey = api.Key{Profile: 2, Bytes: fill(32, 55)}
	}
	t, e := ticket.Seal(c.key, principal(c.service), c.part, fill(16, 7))
	s, f := authenticator.Seal(c.part.Session, c.usage, c.auth, fill(16, 8))
	b, g := apmessage.EncodeRequest(api.ServiceRequest{Ticket: t, Sealed: s})
	if e != api.OK || f != api.OK || g != api.OK {
		panic("request")
	}
	r := c.r
	r.PreAuth = append([]api.PreAuth{{Kind: 77}}, api.PreAuth{Kind: 1, Bytes: b})
	return r
}

func answer(t *testing.T, x grant.Realm, c call, now int) api.Result {
	t.Helper()
	y, e := grant.Answer(x, c.request(), c.from, now, 5)
	if e != api.OK {
		t.Fatal(e)
	}
	return y
}

// refused checks that a call is refused with a code, for a client that is known or not.
func refused(t *testing.T, what string, x grant.Realm, c call, now, code int, client string) {
	t.Helper()
	before := x.Random.Copy()
	y := answer(t, x, c, now)
	want := api.Principal{}
	if client != "" {
		want = principal(client)
	}
	f := y.Fact
	if f.Code != code || y.Failure.Code != code || !name.Equal(f.Client, want) || !name.Equal(y.Failure.Client, want) || !name.Equal(f.Service, c.r.Service) || f.Kind != 12 || f.PreAuth != 0 || f.Time != now || f.Micro != 5 || y.Reply.Kind != 0 || len(y.Failure.Data) != 0 {
		t.Error(what, f, y.Failure)
	}
	a, _ := before.Bytes(4)
	b, _ := x.Random.Copy().Bytes(4)
	if !bytes.Equal(a, b) {
		t.Error(what, "generator")
	}
}

// granted returns what a reply contains.
func granted(t *testing.T, x grant.Realm, c call, now int, k api.Key) (api.Result, api.TicketPart) {
	t.Helper()
	y := answer(t, x, c, now)
	if y.Fact.Code != 0 {
		t.Fatal(y.Fact)
	}
	reply := c.part.Session
	if c.subkey {
		reply = api.Key{Profile: 2, Bytes: fill(32, 55)}
	}
	p, e := ticket.Open(k, y.Reply.Ticket)
	q, f := message.OpenPart(12, reply, y.Reply.Sealed)
	if e != api.OK || f != api.OK || !message.ValidReply(y.Reply) {
		t.Fatal(e, f)
	}
	if q.Nonce != c.r.Nonce || q.Expires != 0 || q.Flags != p.Flags || q.Times != p.Times || !profile.Equal(q.Session, p.Session) || !name.Equal(q.Service, y.Reply.Ticket.Service) || !name.Equal(y.Reply.Client, p.Client) || len(y.Reply.PreAuth) != 0 || y.Fact.PreAuth != 1 || y.Fact.Flags != p.Flags || !slices.EqualFunc(p.Addresses, q.Addresses, func(a, b api.Address) bool { return a.Kind == b.Kind && bytes.Equal(a.Bytes, b.Bytes) }) {
		t.Error(p, q, y.Fact)
	}
	return y, p
}

func TestGranted(t *testing.T) {
	x := start()
	g := x.Random.Copy()
	serial := x.Database.Serial()
	y, p := granted(t, x, plain(), 100, key(3))
	if p.Times != (api.Times{Start: 100, End: 500}) || p.Flags != api.FlagPreAuth|api.FlagTransited || len(p.Transited) != 0 || !name.Equal(p.Client, principal("u@R")) || !name.Equal(y.Reply.Ticket.Service, principal("s@R")) || x.Database.Serial() != serial {
		t.Error(p)
	}
	b, ok := pac.Find(p.Data)
	q, e := pac.Verify(b, key(3), key(1))
	if !ok || e != api.OK || !pac.Equal(q, api.Pac{Client: principal("u@R")}) {
		t.Error(q, e)
	}
	k, _ := g.Key(1, 16)
	confounder, _ := g.Bytes(16)
	want, _ := ticket.Seal(key(3), principal("s@R"), p, confounder)
	if !profile.Equal(k, p.Session) || !ticket.Equal(want, y.Reply.Ticket) {
		t.Error("random bytes")
	}
	c := plain()
	c.r.Till, c.subkey = 2000, true
	if _, p := granted(t, x, c, 100, key(3)); p.Times.End != 1000 {
		t.Error(p.Times)
	}
	change(x, "s@R", func(e *api.Entry) {
		e.MaxLife = 50
		e.Keys[0].Keys = append(e.Keys[0].Keys, api.Key{Profile: 2, Version: 1, Bytes: fill(32, 1)})
	})
	if _, p := granted(t, x, plain(), 100, key(3)); p.Times.End != 150 || p.Session.Profile != 2 {
		t.Error(p)
	}
}

func TestPresenting(t *testing.T) {
	invalid := func(c *call) { c.part.Flags |= api.FlagInvalid }
	for i, v := range []struct {
		what   string
		change func(*call)
		now    int
		code   int
		client string
	}{
		{"x", func(c *call) { c.service = "s@R"; c.key = key(3) }, 100, api.CodeNotUs, ""}, {"foreign", func(c *call) { c.service = "krbtgt/R@Q" }, 100, api.CodeNotUs, ""}, {"other", func(c *call) { c.service = "krbtgt/S@R" }, 100, api.CodeNotUs, ""}, {"version", func(c *call) { c.key.Version = 2 }, 100, api.CodeKeyVersion, ""}, {"profile", func(c *call) { c.key = api.Key{Profile: 2, Bytes: fill(32, 1)} }, 100, api.CodeKeyVersion, ""}, {"key", func(c *call) { c.key = key(9) }, 100, api.CodeIntegrity, ""}, {"no version", func(c *call) { c.key.Version = 0 }, 100, 0, ""},
		{"invalid", invalid, 100, api.CodeTicketEarly, "u@R"}, {"early", func(c *call) { c.part.Times.Start = 401 }, 100, api.CodeTicketEarly, "u@R"}, {"expired", func(*call) {}, 1301, api.CodeTicketExpired, "u@R"}, {"address", func(c *call) { c.part.Addresses = []api.Address{{Kind: 20, Bytes: []byte("h")}} }, 100, api.CodeAddress, "u@R"}, {"usage", func(c *call) { c.usage = api.UsageService }, 100, api.CodeIntegrity, "u@R"}, {"client", func(c *call) { c.auth.Client = principal("v@R") }, 100, api.CodeBadMatch, "u@R"}, {"skew", func(c *call) { c.auth.Time = 401 }, 100, api.CodeSkew, "u@R"},
		{"sum type", func(c *call) { c.sum = []byte{} }, 100, api.CodeSumType, "u@R"}, {"modified", func(c *call) { c.sum = fill(16, 1) }, 100, api.CodeModified, "u@R"}, {"unknown", func(c *call) { c.part.Client, c.auth.Client = principal("v@R"), principal("v@R") }, 100, api.CodeClientUnknown, "v@R"},
	} {
		c := plain()
		v.change(&c)
		if c.sum != nil && len(c.sum) == 0 {
			// An empty checksum cannot be told from none in a call.
			c.auth.Sum = nil
		}
		x := start()
		if v.code == 0 {
			granted(t, x, c, v.now, key(3))
			continue
		}
		refused(t, v.what, x, c, v.now, v.code, v.client)
		p, code, e := grant.Present(x, c.request(), c.from, v.now)
		if code != v.code || e != api.OK || p.Issuer != "" || p.Part.Flags != 0 {
			t.Error(i, code, e)
		}
	}
	x := start()
	for _, v := range []struct {
		r    func() api.Request
		code int
	}{{func() api.Request { return plain().r }, api.CodePreAuthNeeded}, {func() api.Request {
		r := plain().r
		r.PreAuth = []api.PreAuth{{Kind: 1, Bytes: []byte{1}}}
		return r
	}, api.CodeMessage}, {func() api.Request { r := plain().request(); r.Nonce++; return r }, api.CodeModified}} {
		y, e := grant.Answer(x, v.r(), api.Address{}, 100, 0)
		if y.Fact.Code != v.code || e != api.OK {
			t.Error(y.Fact.Code, v.code, e)
		}
	}
	for _, v := range []struct {
		change func(*api.Entry)
		code   int
	}{{func(e *api.Entry) { e.Attributes = api.AttrDisabled }, api.CodeClientRevoked}, {func(e *api.Entry) { e.Expires = 100 }, api.CodeClientExpired}} {
		x := start()
		change(x, "u@R", v.change)
		refused(t, "client", x, plain(), 100, v.code, "u@R")
	}
	c := plain()
	c.subkey = true
	p, code, e := grant.Present(start(), c.request(), api.Address{}, 100)
	if code != 0 || e != api.OK || p.Issuer != "R" || !profile.Equal(p.Key, key(1)) || !ticket.EqualPart(p.Part, c.part) || p.Authenticator.Subkey.Profile != 2 || !name.Equal(p.Ticket.Service, principal("krbtgt/R@R")) || len(p.Transited) != 0 {
		t.Error(p, code, e)
	}
	bound := plain()
	bound.from = api.Address{Kind: 20, Bytes: []byte("h")}
	bound.part.Addresses = []api.Address{bound.from}
	if _, p := granted(t, start(), bound, 100, key(3)); len(p.Addresses) != 1 {
		t.Error(p.Addresses)
	}
	x = start()
	change(x, "krbtgt/R@R", func(e *api.Entry) { e.Keys = nil })
	refused(t, "no keys", x, plain(), 100, api.CodeNotUs, "")
}

func TestTargets(t *testing.T) {
	for _, v := range []struct {
		what   string
		change func(x grant.Realm, c *call)
		code   int
	}{
		{"unknown", func(_ grant.Realm, c *call) { c.r.Service = principal("x@R") }, api.CodeServiceUnknown}, {"far", func(_ grant.Realm, c *call) { c.r.Service = principal("x@Z") }, api.CodeServiceUnknown}, {"disabled", func(x grant.Realm, _ *call) {
			change(x, "s@R", func(e *api.Entry) { e.Attributes = api.AttrDisabled })
		}, api.CodeServiceRevoked}, {"no service", func(x grant.Realm, _ *call) {
			change(x, "s@R", func(e *api.Entry) { e.Attributes = api.AttrNoService; e.Expires = 1 })
		}, api.CodeServiceRevoked}, {"expired", func(x grant.Realm, _ *call) { change(x, "s@R", func(e *api.Entry) { e.Expires = 100 }) }, api.CodeServiceExpired}, {"no key", func(x grant.Realm, _ *call) { change(x, "s@R", func(e *api.Entry) { e.Keys = nil }) }, api.CodeNoKey}, {"profile", func(_ grant.Realm, c *call) { c.r.Profiles = []int{2} }, api.CodeNoProfile},
		{"alias", func(x grant.Realm, c *call) {
			change(x, "s@R", func(e *api.Entry) { e.Aliases = []api.Principal{principal("t@R")} })
			c.r.Service = principal("t@R")
		}, api.CodeServiceUnknown},
		{"forward", func(_ grant.Realm, c *call) { c.r.Options = api.FlagForwardable }, api.CodeBadOption}, {"postdated", func(_ grant.Realm, c *call) { c.r.Options = api.FlagPostdated; c.r.From = 401 }, api.CodeNoPostdate}, {"from", func(_ grant.Realm, c *call) { c.r.From = 401 }, api.CodeNoPostdate}, {"never", func(_ grant.Realm, c *call) { c.r.Till = 100 }, api.CodeNeverValid}, {"both", func(_ grant.Realm, c *call) {
			c.r.Options = api.OptionRenew | api.FlagForwardable
			c.r.Service = principal("krbtgt/R@R")
		}, api.CodeBadOption},
		{"renew", func(_ grant.Realm, c *call) { c.r.Options = api.OptionRenew; c.r.Service = principal("krbtgt/R@R") }, api.CodeBadOption}, {"renew s", func(_ grant.Realm, c *call) { c.r.Options = api.OptionRenew }, api.CodeBadOption}, {"validate", func(_ grant.Realm, c *call) {
			c.r.Options = api.OptionValidate
			c.r.Service = principal("krbtgt/R@R")
		}, api.CodeTicketEarly},
		{"renew foreign", func(_ grant.Realm, c *call) {
			c.r.Options, c.r.Service = api.OptionRenew, principal("krbtgt/R@T")
			c.service, c.key, c.part.Flags, c.part.Times.Renew = "krbtgt/R@T", key(5), api.FlagRenewable, 2000
		}, api.CodeBadOption},
		{"pac", func(_ grant.Realm, c *call) { c.part.Data = []api.Data{{Kind: 128, Bytes: []byte{1}}} }, api.CodeIntegrity}, {"pac client", func(_ grant.Realm, c *call) {
			b, _ := pac.Sign(api.Pac{Client: principal("v@R")}, key(1), key(1))
			c.part.Data = []api.Data{{Kind: 128, Bytes: b}}
		}, api.CodeIntegrity}, {"data", func(_ grant.Realm, c *call) { c.part.Data = make([]api.Data, 16) }, api.CodeGeneric},
	} {
		x, c := start(), plain()
		v.change(x, &c)
		refused(t, v.what, x, c, 100, v.code, "u@R")
	}
	x, c := start(), plain()
	change(x, "s@R", func(e *api.Entry) {
		e.Aliases = []api.Principal{principal("t@R")}
		e.Attributes = api.AttrDelegate
	})
	c.r.Service, c.r.Options = principal("t@R"), api.OptionCanonical
	y, p := granted(t, x, c, 100, key(3))
	if !name.Equal(y.Reply.Ticket.Service, principal("s@R")) || p.Flags&api.FlagDelegate == 0 || !name.Equal(y.Fact.Service, c.r.Service) {
		t.Error(y.Reply.Ticket.Service)
	}
}

func TestFlagsTimesAddresses(t *testing.T) {
	x, c := start(), plain()
	c.part.Flags |= api.FlagForwardable | api.FlagRenewable | api.FlagMayPostdate
	c.part.Times.Renew = 3000
	c.r.Options = api.FlagForwardable | api.FlagForwarded | api.FlagRenewable | api.OptionRenewableOK | api.OptionConstrained
	c.r.Renew = 2500
	c.r.Addresses = []api.Address{{Kind: 20, Bytes: []byte("new")}}
	_, p := granted(t, x, c, 100, key(3))
	if p.Flags != api.FlagForwardable|api.FlagForwarded|api.FlagRenewable|api.FlagPreAuth|api.FlagTransited || p.Times.Renew != 2500 || len(p.Addresses) != 1 {
		t.Error(p.Flags, p.Times, p.Addresses)
	}
	c.r.Options = api.FlagRenewable
	c.r.Renew = 400
	_, p = granted(t, x, c, 100, key(3))
	if p.Flags&api.FlagRenewable != 0 || p.Times.Renew != 0 || len(p.Addresses) != 0 {
		t.Error(p.Flags, p.Times)
	}
	c.r.Options, c.r.From = api.FlagPostdated, 401
	if _, p = granted(t, x, c, 100, key(3)); p.Flags&(api.FlagPostdated|api.FlagInvalid) != api.FlagPostdated|api.FlagInvalid || p.Times.Start != 401 {
		t.Error(p)
	}
	c.r.From = 400
	if _, p = granted(t, x, c, 100, key(3)); p.Flags&api.FlagPostdated != 0 || p.Times.Start != 100 {
		t.Error(p)
	}
	change(x, "u@R", func(e *api.Entry) { e.Attributes = api.AttrNoForward })
	c.r.Options = api.FlagForwardable
	if _, p = granted(t, x, c, 100, key(3)); p.Flags&api.FlagForwardable != 0 {
		t.Error(p)
	}
	c = plain()
	c.part.Flags, c.part.Times = api.FlagRenewable|api.FlagInitial, api.Times{End: 200, Renew: 3000}
	c.r.Options, c.r.Service = api.OptionRenew|api.OptionCanonical, principal("krbtgt/R@R")
	if _, p = granted(t, x, c, 100, key(1)); p.Times != (api.Times{Start: 100, End: 300, Renew: 3000}) || p.Flags != api.FlagRenewable|api.FlagInitial|api.FlagTransited {
		t.Error(p)
	}
	c.part.Flags, c.r.Options = api.FlagInvalid|api.FlagPostdated, api.OptionValidate
	if _, p = granted(t, x, c, 100, key(1)); p.Flags != api.FlagPostdated|api.FlagTransited || p.Times != c.part.Times {
		t.Error(p)
	}
}

func TestRealms(t *testing.T) {
	x, c := start(), plain()
	c.r.Service = principal("www@S")
	y, p := granted(t, x, c, 100, key(4))
	if !name.Equal(y.Reply.Ticket.Service, principal("krbtgt/S@R")) || len(p.Transited) != 0 {
		t.Error(y.Reply.Ticket.Service)
	}
	// A client of another realm that has passed realms.
	f := plain()
	f.service, f.key = "krbtgt/R@T", key(5)
	f.part.Client, f.auth.Client = principal("u@Q"), principal("u@Q")
	f.part.Transited = []string{"M"}
	refused(t, "path", x, f, 100, api.CodePath, "u@Q")
	f.r.Service = principal("www@S")
	if _, p := granted(t, x, f, 100, key(4)); !slices.Equal(p.Transited, []string{"M", "T"}) || p.Flags&api.FlagTransited != 0 || len(p.Data) != 0 {
		t.Error(p)
	}
	x.Policy.Allow("Q", "R", "M", "T")
	f.r.Service = principal("s@R")
	if _, p := granted(t, x, f, 100, key(3)); !slices.Equal(p.Transited, []string{"M", "T"}) || p.Flags&api.FlagTransited == 0 || len(p.Data) != 0 {
		t.Error(p)
	}
	// A ticket of the own realm for another realm's client, and the reverse.
	near, back := f, f
	near.service, near.key = "krbtgt/R@R", key(1)
	near.part.Transited = []string{"M", "T"}
	back.part.Client, back.auth.Client, back.part.Transited = principal("u@R"), principal("u@R"), nil
	x.Policy.Allow("R", "R", "T")
	for _, c := range []call{near, back} {
		if _, p := granted(t, x, c, 100, key(3)); len(p.Data) != 0 {
			t.Error(p)
		}
	}
	// Foreign authorisation data are verified with the key of the ticket alone.
	old := api.Pac{Client: principal("u@Q"), User: 5}
	b, _ := pac.Sign(old, key(5), key(77))
	f.part.Data = []api.Data{{Kind: 3}, {Kind: 128, Bytes: b}}
	_, p = granted(t, x, f, 100, key(3))
	b, _ = pac.Find(p.Data)
	if q, e := pac.Verify(b, key(3), key(1)); e != api.OK || !pac.Equal(q, old) || len(p.Data) != 2 {
		t.Error(q, e)
	}
	full := f
	full.part.Transited = nil
	for i := range 16 {
		full.part.Transited = append(full.part.Transited, "X"+string(rune('A'+i)))
	}
	refused(t, "full", x, full, 100, api.CodePath, "u@Q")
	x.Database.Remove(principal("krbtgt/R@R"))
	refused(t, "realm key", x, f, 100, api.CodeNoKey, "u@Q")
	for _, v := range []struct {
		service, entry, issuer string
	}{{"s@R", "s@R", "R"}, {"krbtgt/S@R", "krbtgt/S@R", "R"}, {"krbtgt/R@T", "trusted/T@R", "T"}, {"krbtgt/R@Q", "", ""}, {"s@T", "", ""}, {"krbtgt/S@T", "", ""}, {"none@R", "", ""}} {
		e, issuer, ok := grant.Issuer(x, principal(v.service))
		if ok != (v.issuer != "") || issuer != v.issuer || ok && !name.Equal(e.Name, principal(v.entry)) {
			t.Error(v, e.Name, issuer, ok)
		}
	}
	if _, _, ok := grant.Issuer(grant.Realm{}, principal("s@R")); ok {
		t.Error("issuer")
	}
}

func TestIssue(t *testing.T) {
	x, c := start(), plain()
	p, _, _ := grant.Present(x, c.request(), api.Address{}, 100)
	data := []api.Data{{Kind: 4, Bytes: []byte{1}}}
	y, e := grant.Issue(x, c.request(), p, principal("other@R"), data, api.Address{}, 100, 3)
	q, f := ticket.Open(key(3), y.Reply.Ticket)
	if e != api.OK || f != api.OK || !name.Equal(q.Client, principal("other@R")) || len(q.Data) != 1 || q.Data[0].Kind != 4 || !name.Equal(y.Fact.Client, principal("other@R")) || y.Fact.Micro != 3 {
		t.Error(y.Fact, e, f)
	}
	r := c.request()
	r.Service = principal("x@R")
	y, e = grant.Issue(x, r, p, principal("other@R"), nil, api.Address{}, 100, 3)
	if e != api.OK || y.Fact.Code != api.CodeServiceUnknown || !name.Equal(y.Failure.Client, principal("other@R")) {
		t.Error(y.Fact, e)
	}
	r.Options, r.Service = api.OptionRenew, principal("s@T")
	odd := p
	odd.Ticket.Service = principal("s@T")
	y, e = grant.Issue(x, r, odd, principal("u@R"), nil, api.Address{}, 100, 3)
	if e != api.OK || y.Fact.Code != api.CodeBadOption {
		t.Error(y.Fact, e)
	}
	long := slices.Repeat([]api.Data{{Kind: 4, Bytes: fill(4096, 1)}}, 16)
	before := x.Random.Copy()
	y, e = grant.Issue(x, c.request(), p, principal("u@R"), long, api.Address{}, 100, 3)
	before.Key(1, 16)
	before.Bytes(16)
	before.Bytes(16)
	a, _ := before.Bytes(4)
	b, _ := x.Random.Bytes(4)
	if e != api.OK || y.Fact.Code != api.CodeGeneric || !bytes.Equal(a, b) {
		t.Error(y.Fact.Code, e)
	}
	for i, change := range []func(*grant.Presented){func(p *grant.Presented) { p.Ticket = api.Ticket{} }, func(p *grant.Presented) { p.Part.Session = api.Key{} }, func(p *grant.Presented) { p.Issuer = "r" }, func(p *grant.Presented) { p.Authenticator.Subkey.Profile = 9 }, func(p *grant.Presented) { p.Transited = []string{"x"} }, func(p *grant.Presented) { p.Part.Client = api.Principal{} }} {
		v := p
		change(&v)
		if _, e := grant.Issue(x, c.request(), v, principal("u@R"), nil, api.Address{}, 100, 3); e != api.ErrArg {
			t.Error(i, e)
		}
	}
	_, e1 := grant.Issue(x, c.request(), p, api.Principal{}, nil, api.Address{}, 100, 3)
	_, e2 := grant.Issue(x, c.request(), p, principal("u@R"), []api.Data{{Kind: -1}}, api.Address{}, 100, 3)
	if e1 != api.ErrArg || e2 != api.ErrArg {
		t.Error(e1, e2)
	}
}

func TestErrors(t *testing.T) {
	for i, v := range []struct {
		change     func(*grant.Realm, *api.Request)
		from       api.Address
		now, micro int
		want       api.Errno
	}{{func(x *grant.Realm, _ *api.Request) { x.Database = nil }, api.Address{}, -1, 0, api.ErrNil}, {func(x *grant.Realm, _ *api.Request) { x.Database = &database.Database{} }, api.Address{}, 1, 0, api.ErrNil}, {func(x *grant.Realm, _ *api.Request) { x.Map = nil }, api.Address{}, 1, 0, api.ErrNil}, {func(x *grant.Realm, _ *api.Request) { x.Policy = nil }, api.Address{}, 1, 0, api.ErrNil}, {func(x *grant.Realm, _ *api.Request) { x.Hosts = nil }, api.Address{}, 1, 0, api.ErrNil}, {func(x *grant.Realm, _ *api.Request) { x.Random = &random.Generator{} }, api.Address{}, 1, 0, api.ErrNil}, {func(x *grant.Realm, _ *api.Request) { x.Config.Life = 0 }, api.Address{}, 1, 0, api.ErrArg}, {func(x *grant.Realm, _ *api.Request) { x.Config.Realm = "S" }, api.Address{}, 1, 0, api.ErrArg}, {func(_ *grant.Realm, r *api.Request) { r.Profiles = nil }, api.Address{}, 1, 0, api.ErrArg}, {func(_ *grant.Realm, r *api.Request) { r.Kind = 10; r.Client = principal("u@R") }, api.Address{}, 1, 0, api.ErrArg}, {func(*grant.Realm, *api.Request) {}, api.Address{Kind: 2}, 1, 0, api.ErrArg}, {func(*grant.Realm, *api.Request) {}, api.Address{}, -1, 0, api.ErrArg}, {func(*grant.Realm, *api.Request) {}, api.Address{}, 1, 1000000, api.ErrArg}} {
		x, r := start(), plain().request()
		v.change(&x, &r)
		_, e := grant.Answer(x, r, v.from, v.now, v.micro)
		_, f := grant.Issue(x, r, grant.Presented{}, api.Principal{}, nil, v.from, v.now, v.micro)
		if e != v.want || f != v.want {
			t.Error(i, e, f)
		}
		if v.micro == 0 {
			if _, code, g := grant.Present(x, r, v.from, v.now); g != v.want || code != 0 {
				t.Error(i, g)
			}
		}
	}
}
