package initial_test

import (
	"bytes"
	"testing"

	"watchword/api"
	"watchword/cert"
	"watchword/database"
	"watchword/entry"
	"watchword/initial"
	"watchword/message"
	"watchword/name"
	"watchword/pake"
	"watchword/pkinit"
	"watchword/profile"
	"watchword/random"
	"watchword/sign"
	"watchword/ticket"
	"watchword/timestamp"
)

func principal(s string) api.Principal {
	p, e := name.Parse(s)
	if e != api.OK {
		panic(s)
	}
	return p
}

func fill(n int, b byte) []byte { return bytes.Repeat([]byte{b}, n) }

// key returns a key of profile 1 with the version 1.
func key(b byte) api.Key { return api.Key{Profile: 1, Version: 1, Bytes: fill(16, b)} }

func keyed(s string, b byte, more ...api.Key) api.Entry {
	return api.Entry{Name: principal(s), Keys: []api.KeySet{{Version: 1, Keys: append([]api.Key{key(b)}, more...), Salt: "salt", Iterations: 4}}}
}

type bench struct {
	c api.CentreConfig
	d *database.Database
	g *random.Generator
}

// all are the flags that a realm can allow.
const all = api.FlagForwardable | api.FlagProxiable | api.FlagMayPostdate | api.FlagRenewable | api.FlagDelegate

func start() bench {
	b := bench{c: api.CentreConfig{Realm: "R", Skew: 300, Life: 1000}}
	b.d, _ = database.New("R")
	b.g, _ = random.New([]byte("seed"))
	u := keyed("u@R", 1)
	u.Attributes = api.AttrPreAuth
	u.Aliases = []api.Principal{principal("alias@R")}
	b.d.Put(u)
	b.d.Put(keyed("krbtgt/R@R", 2))
	return b
}

// change changes an entry of the database.
func (b bench) change(s string, f func(*api.Entry)) {
	e, _ := b.d.Get(principal(s))
	f(&e)
	if b.d.Put(e) != api.OK {
		panic("put")
	}
}

func request() api.Request {
	return api.Request{Kind: api.RequestInitial, Client: principal("u@R"), Service: principal("krbtgt/R@R"), Till: 500, Nonce: 7, Profiles: []int{2, 1}}
}

// stamp returns a request with a timestamp that is made with a key.
func stamp(r api.Request, k api.Key, time int) api.Request {
	p, _ := timestamp.Make(k, time, 3, fill(16, 9))
	r.PreAuth = append(r.PreAuth, p)
	return r
}

func good() api.Request { return stamp(request(), key(1), 100) }

func (b bench) ask(t *testing.T, r api.Request, now int) api.Result {
	t.Helper()
	x, e := initial.Answer(b.c, b.d, b.g, r, api.Address{}, now, 5)
	if e != api.OK {
		t.Fatal(e)
	}
	return x
}

// refused checks that a request is refused with a code and data of some kinds.
func (b bench) refused(t *testing.T, what string, r api.Request, now, code int, kinds ...int) api.Result {
	t.Helper()
	x := b.ask(t, r, now)
	if x.Fact.Code != code || x.Failure.Code != code || len(x.Failure.Data) != len(kinds) {
		t.Error(what, x.Fact.Code, code, x.Failure.Data)
		return x
	}
	for i, k := range kinds {
		if x.Failure.Data[i].Kind != k {
			t.Error(what, x.Failure.Data)
		}
	}
	f := x.Fact
	if f.Time != now || f.Micro != 5 || f.Kind != 10 || !name.Equal(f.Client, r.Client) || !name.Equal(f.Service, r.Service) || f.PreAuth != 0 || f.Flags != 0 || x.Reply.Kind != 0 || x.Failure.Time != now || x.Failure.Micro != 5 || !name.Equal(x.Failure.Client, r.Client) || x.Failure.Text != "" || !message.ValidFailure(x.Failure) {
		t.Error(what, f, x.Failure)
	}
	return x
}

// granted checks a reply and returns what is sealed in it.
func (b bench) granted(t *testing.T, r api.Request, now int, serviceKey, replyKey api.Key) (api.Result, api.TicketPart, api.ReplyPart) {
	t.Helper()
	x := b.ask(t, r, now)
	p, e := ticket.Open(serviceKey, x.Reply.Ticket)
	q, f := message.OpenPart(api.RequestInitial, replyKey, x.Reply.Sealed)
	if x.Fact.Code != 0 || e != api.OK || f != api.OK || !message.ValidReply(x.Reply) {
		t.Fatal(x.Fact.Code, e, f)
	}
	if q.Nonce != r.Nonce || !profile.Equal(p.Session, q.Session) || p.Flags != q.Flags || p.Times != q.Times || x.Fact.Flags != p.Flags || len(p.Transited)+len(p.Data) != 0 || !name.Equal(q.Service, x.Reply.Ticket.Service) || !name.Equal(p.Client, x.Reply.Client) || x.Failure.Code != 0 {
		t.Error(p, q, x.Fact)
	}
	return x, p, q
}

func TestValid(t *testing.T) {
	for i, x := range []struct {
		change func(*api.CentreConfig)
		valid  bool
	}{
		{func(*api.CentreConfig) {}, true}, {func(c *api.CentreConfig) { c.Realm = "r" }, false}, {func(c *api.CentreConfig) { c.Skew = -1 }, false}, {func(c *api.CentreConfig) { c.Skew = 86401 }, false}, {func(c *api.CentreConfig) { c.Life = 0 }, false}, {func(c *api.CentreConfig) { c.Life = 1 << 31 }, true}, {func(c *api.CentreConfig) { c.Life = 1<<31 + 1 }, false}, {func(c *api.CentreConfig) { c.Renew = -1 }, false}, {func(c *api.CentreConfig) { c.Renew = 1<<31 + 1 }, false}, {func(c *api.CentreConfig) { c.Allowed = all }, true}, {func(c *api.CentreConfig) { c.Allowed = api.FlagInitial }, false}, {func(c *api.CentreConfig) { c.Allowed = api.FlagForwarded }, false},
		{func(c *api.CentreConfig) { c.Skew, c.Life = 0, 1 }, true}, {func(c *api.CentreConfig) { c.Skew, c.Renew = 86400, 1<<31 }, true}, {func(c *api.CentreConfig) { c.Revoked = make([]api.Revocation, 64) }, true}, {func(c *api.CentreConfig) { c.PakeGroup = 1 }, true},
		{func(c *api.CentreConfig) { c.PakeGroup = 4 }, true}, {func(c *api.CentreConfig) { c.PakeGroup = 5 }, false}, {func(c *api.CentreConfig) { c.PakeGroup = -1 }, false}, {func(c *api.CentreConfig) { c.Anchors = make([]api.Anchor, 64) }, true}, {func(c *api.CentreConfig) { c.Anchors = make([]api.Anchor, 65) }, false}, {func(c *api.CentreConfig) { c.Revoked = make([]api.Revocation, 65) }, false}, {func(c *api.CentreConfig) { c.Chain = make([]api.Cert, 5); c.Private = []byte{1} }, true}, {func(c *api.CentreConfig) { c.Chain = make([]api.Cert, 6); c.Private = []byte{1} }, false}, {func(c *api.CentreConfig) { c.Private = []byte{1} }, false}, {func(c *api.CentreConfig) { c.Chain = make([]api.Cert, 1) }, false},
	} {
		b := start()
		x.change(&b.c)
		_, e := initial.Answer(b.c, b.d, b.g, request(), api.Address{}, 1, 0)
		if initial.Valid(b.c) != x.valid || (e == api.OK) != x.valid {
			t.Error(i, e)
		}
	}
}

func TestAllowedLimits(t *testing.T) {
	c := api.CentreConfig{Allowed: all, Life: 100, Renew: 50}
	for i, x := range []struct {
		client, service api.Attributes
		want            api.Flags
	}{{0, 0, all &^ api.FlagDelegate}, {api.AttrNoForward, api.AttrDelegate, all &^ api.FlagForwardable}, {api.AttrDelegate, api.AttrNoProxy, all &^ (api.FlagDelegate | api.FlagProxiable)}, {api.AttrNoRenew, api.AttrNoPostdate, all &^ (api.FlagRenewable | api.FlagMayPostdate | api.FlagDelegate)}, {api.AttrNoPostdate, api.AttrNoForward | api.AttrNoRenew | api.AttrNoProxy | api.AttrDelegate, api.FlagDelegate}} {
		if f := initial.Allowed(c, api.Entry{Attributes: x.client}, api.Entry{Attributes: x.service}); f != x.want {
			t.Error(i, f)
		}
	}
	if f := initial.Allowed(api.CentreConfig{}, api.Entry{}, api.Entry{Attributes: api.AttrDelegate}); f != 0 {
		t.Error(f)
	}
	if l := initial.Limits(c); l.Life != 100 || l.Renew != 50 {
		t.Error(l)
	}
	if l := initial.Limits(c, api.Entry{MaxLife: 200, MaxRenew: 7}, api.Entry{MaxLife: 60}, api.Entry{MaxLife: 70, MaxRenew: 90}); l.Life != 60 || l.Renew != 7 {
		t.Error(l)
	}
}

func TestOffers(t *testing.T) {
	b := start()
	u, _ := b.d.Get(principal("u@R"))
	l, e := initial.Offers(b.c, u)
	salt, _ := entry.EncodeOffer([]api.Salt{{Profile: 1, Salt: "salt", Iterations: 4}})
	if e != api.OK || len(l) != 2 || l[0].Kind != 19 || !bytes.Equal(l[0].Bytes, salt) || l[1].Kind != 2 || len(l[1].Bytes) != 0 {
		t.Error(l, e)
	}
	b.c.PakeGroup = 3
	b.c.Anchors = make([]api.Anchor, 1)
	l, e = initial.Offers(b.c, u)
	if e != api.OK || len(l) != 4 || l[2].Kind != 151 || !bytes.Equal(l[2].Bytes, []byte{3}) || l[3].Kind != 16 || len(l[3].Bytes) != 0 {
		t.Error(l, e)
	}
	_, e = initial.Offers(api.CentreConfig{}, u)
	_, f := initial.Offers(b.c, api.Entry{})
	if e != api.ErrArg || f != api.ErrArg {
		t.Error(e, f)
	}
}

func TestErrors(t *testing.T) {
	b := start()
	other, _ := database.New("S")
	grant := request()
	grant.Kind, grant.Client = api.RequestGrant, api.Principal{}
	for i, x := range []struct {
		d          *database.Database
		g          *random.Generator
		r          api.Request
		from       api.Address
		now, micro int
		want       api.Errno
	}{{nil, b.g, request(), api.Address{}, 1, 0, api.ErrNil}, {&database.Database{}, b.g, api.Request{}, api.Address{}, -1, 0, api.ErrNil}, {b.d, nil, request(), api.Address{}, 1, 0, api.ErrNil}, {b.d, &random.Generator{}, request(), api.Address{}, 1, 0, api.ErrNil}, {other, b.g, request(), api.Address{}, 1, 0, api.ErrArg}, {b.d, b.g, grant, api.Address{}, 1, 0, api.ErrArg}, {b.d, b.g, api.Request{}, api.Address{}, 1, 0, api.ErrArg}, {b.d, b.g, request(), api.Address{Kind: 2}, 1, 0, api.ErrArg}, {b.d, b.g, request(), api.Address{}, -1, 0, api.ErrArg}, {b.d, b.g, request(), api.Address{}, 1<<40 + 1, 0, api.ErrArg}, {b.d, b.g, request(), api.Address{}, 1, -1, api.ErrArg}, {b.d, b.g, request(), api.Address{}, 1, 1000000, api.ErrArg}, {b.d, b.g, request(), api.Address{Kind: 20, Bytes: []byte("h")}, 1, 0, api.OK}} {
		if y, e := initial.Answer(b.c, x.d, x.g, x.r, x.from, x.now, x.micro); e != x.want || e != api.OK && y.Fact.Kind != 0 || e == api.OK && string(y.Fact.From.Bytes) != "h" {
			t.Error(i, e)
		}
	}
}

func TestNames(t *testing.T) {
	b := start()
	r := good()
	r.Client = principal("u@S")
	b.refused(t, "realm", r, 100, api.CodeWrongRealm)
	r = good()
	r.Service = principal("krbtgt/R@S")
	b.refused(t, "realm", r, 100, api.CodeWrongRealm)
	r.Service = principal("x@R")
	b.refused(t, "service", r, 100, api.CodeServiceUnknown)
	r.Client = principal("v@R")
	b.refused(t, "client", r, 100, api.CodeClientUnknown)
	r = request()
	r.Client = principal("alias@R")
	b.refused(t, "alias", stamp(r, key(1), 100), 100, api.CodeClientUnknown)
	b.change("krbtgt/R@R", func(e *api.Entry) { e.Aliases = []api.Principal{principal("tgs@R")} })
	r.Service = principal("tgs@R")
	r.Options = api.OptionCanonical
	_, p, _ := b.granted(t, stamp(r, key(1), 100), 100, key(2), key(1))
	if !name.Equal(p.Client, principal("u@R")) {
		t.Error(p.Client)
	}
	x := b.ask(t, stamp(r, key(1), 100), 100)
	if !name.Equal(x.Reply.Ticket.Service, principal("krbtgt/R@R")) || !name.Equal(x.Fact.Client, r.Client) {
		t.Error(x.Reply.Ticket.Service, x.Fact.Client)
	}
	r = good()
	r.Service = principal("tgs@R")
	b.refused(t, "service alias", r, 100, api.CodeServiceUnknown)
}

func TestStates(t *testing.T) {
	for i, x := range []struct {
		entry  string
		change func(*api.Entry)
		now    int
		code   int
	}{
		{"u@R", func(e *api.Entry) { e.Attributes |= api.AttrDisabled; e.Expires = 1 }, 100, api.CodeClientRevoked}, {"u@R", func(e *api.Entry) { e.Expires = 100 }, 100, api.CodeClientExpired}, {"u@R", func(e *api.Entry) { e.Expires = 101 }, 100, api.CodeOK}, {"krbtgt/R@R", func(e *api.Entry) { e.Attributes |= api.AttrDisabled }, 100, api.CodeServiceRevoked}, {"krbtgt/R@R", func(e *api.Entry) { e.Attributes |= api.AttrNoService; e.Expires = 1 }, 100, api.CodeServiceRevoked}, {"krbtgt/R@R", func(e *api.Entry) { e.Expires = 100 }, 100, api.CodeServiceExpired}, {"u@R", func(e *api.Entry) { e.Attributes |= api.AttrNoService }, 100, api.CodeOK},
		{"u@R", func(e *api.Entry) { e.Attributes |= api.AttrMustChange }, 100, api.CodeKeyExpired}, {"u@R", func(e *api.Entry) { e.PasswordExpires = 100 }, 100, api.CodeKeyExpired}, {"u@R", func(e *api.Entry) { e.PasswordExpires = 101 }, 100, api.CodeOK}, {"krbtgt/R@R", func(e *api.Entry) { e.Keys = nil }, 100, api.CodeNoKey}, {"krbtgt/R@R", func(e *api.Entry) { e.Master = 1 }, 100, api.CodeNoKey}, {"u@R", func(e *api.Entry) { e.Keys = nil }, 100, api.CodeNoKey}, {"u@R", func(e *api.Entry) { e.Master = 1 }, 100, api.CodeNoKey},
		{"u@R", func(e *api.Entry) { e.Keys[0].Keys[0] = api.Key{Profile: 2, Version: 1, Bytes: fill(32, 1)} }, 100, api.CodePreAuthFailed},
	} {
		b := start()
		b.change(x.entry, x.change)
		y := b.ask(t, good(), x.now)
		if y.Fact.Code != x.code {
			t.Error(i, y.Fact.Code, x.code)
		}
	}
	b := start()
	r := good()
	r.Profiles = []int{2}
	b.refused(t, "profile", r, 100, api.CodeNoProfile)
	b.change("krbtgt/R@R", func(e *api.Entry) {
		e.Keys[0].Keys = append(e.Keys[0].Keys, api.Key{Profile: 2, Version: 1, Bytes: fill(32, 8)})
	})
	b.refused(t, "client profile", r, 100, api.CodeNoProfile)
	_, p, _ := b.granted(t, good(), 100, key(2), key(1))
	if p.Session.Profile != 2 {
		t.Error(p.Session)
	}
	b.change("u@R", func(e *api.Entry) { e.Attributes |= api.AttrMustChange })
	change := keyed("kadmin/changepw@R", 4)
	b.d.Put(change)
	r = good()
	r.Service = change.Name
	b.granted(t, r, 100, key(4), key(1))
}

func TestLocked(t *testing.T) {
	b := start()
	b.d.PutPolicy(api.Policy{Name: "p", Length: 1, Classes: 1, Fails: 2, Lock: 50})
	b.change("u@R", func(e *api.Entry) { e.Policy = "p" })
	for range 2 {
		b.refused(t, "failed", stamp(request(), key(7), 100), 100, api.CodePreAuthFailed, 19, 2)
	}
	b.refused(t, "locked", good(), 149, api.CodeClientRevoked)
	if u, _ := b.d.Get(principal("u@R")); u.Fails != 2 || u.LastFail != 100 {
		t.Error(u)
	}
	b.granted(t, good(), 150, key(2), key(1))
	if u, _ := b.d.Get(principal("u@R")); u.Fails != 0 || u.LastSuccess != 150 {
		t.Error(u)
	}
}

func TestTimestamp(t *testing.T) {
	b := start()
	serial := b.d.Serial()
	x := b.refused(t, "needed", request(), 100, api.CodePreAuthNeeded, 19, 2)
	u, _ := b.d.Get(principal("u@R"))
	offers, _ := initial.Offers(b.c, u)
	if !bytes.Equal(x.Failure.Data[0].Bytes, offers[0].Bytes) {
		t.Error(x.Failure.Data)
	}
	b.refused(t, "skew", stamp(request(), key(1), 401), 100, api.CodeSkew)
	if b.d.Serial() != serial {
		t.Error("an attempt")
	}
	b.refused(t, "key", stamp(request(), key(3), 100), 100, api.CodePreAuthFailed, 19, 2)
	b.refused(t, "bytes", api.Request{Kind: 10, PreAuth: []api.PreAuth{{Kind: 2}}, Client: principal("u@R"), Service: principal("krbtgt/R@R"), Profiles: []int{1}}, 100, api.CodePreAuthFailed, 19, 2)
	if u, _ := b.d.Get(principal("u@R")); u.Fails != 2 || b.d.Serial() != serial+2 {
		t.Error(u.Fails)
	}
	r := good()
	r.PreAuth = append([]api.PreAuth{{Kind: 16}, {Kind: 151}, {Kind: 0}}, r.PreAuth...)
	y, p, q := b.granted(t, r, 100, key(2), key(1))
	if p.Flags != api.FlagInitial|api.FlagPreAuth || p.Times != (api.Times{Auth: 100, Start: 100, End: 500}) || y.Fact.PreAuth != 2 || q.Expires != 0 || len(y.Reply.PreAuth) != 1 || y.Reply.PreAuth[0].Kind != 19 || !bytes.Equal(y.Reply.PreAuth[0].Bytes, offers[0].Bytes) || p.Session.Profile != 1 {
		t.Error(p, q, y.Fact)
	}
	if u, _ := b.d.Get(principal("u@R")); u.Fails != 0 || u.LastSuccess != 100 {
		t.Error(u)
	}
	second := api.Key{Profile: 2, Version: 1, Bytes: fill(32, 6)}
	b.change("u@R", func(e *api.Entry) { e.Keys[0].Keys = append(e.Keys[0].Keys, second); e.PasswordExpires = 900 })
	y, _, q = b.granted(t, stamp(request(), second, 100), 100, key(2), second)
	offer, _ := entry.DecodeOffer(y.Reply.PreAuth[0].Bytes)
	if len(offer) != 1 || offer[0].Profile != 2 || q.Expires != 900 {
		t.Error(offer, q)
	}
}

func TestPlain(t *testing.T) {
	b := start()
	b.change("u@R", func(e *api.Entry) { e.Attributes = 0 })
	serial := b.d.Serial()
	y, p, _ := b.granted(t, request(), 100, key(2), key(1))
	if p.Flags != api.FlagInitial || y.Fact.PreAuth != 0 || b.d.Serial() != serial || len(y.Reply.PreAuth) != 1 || y.Reply.PreAuth[0].Kind != 19 {
		t.Error(p.Flags, y.Fact)
	}
	b.change("krbtgt/R@R", func(e *api.Entry) { e.Attributes = api.AttrPreAuth })
	b.refused(t, "needed", request(), 100, api.CodePreAuthNeeded, 19, 2)
}

func TestFlagsTimes(t *testing.T) {
	b := start()
	b.c.Allowed, b.c.Renew = all, 5000
	for i, x := range []struct {
		change func(*api.Request)
		code   int
		flags  api.Flags
		times  api.Times
	}{
		{func(r *api.Request) { r.Till = 0 }, 0, 0, api.Times{Auth: 100, Start: 100, End: 1100}}, {func(r *api.Request) { r.Till = 100 }, api.CodeNeverValid, 0, api.Times{}}, {func(r *api.Request) { r.From = 401 }, api.CodeNoPostdate, 0, api.Times{}}, {func(r *api.Request) { r.From = 400 }, 0, 0, api.Times{Auth: 100, Start: 100, End: 500}}, {func(r *api.Request) { r.From = 401; r.Options = api.FlagPostdated }, 0, api.FlagPostdated | api.FlagInvalid, api.Times{Auth: 100, Start: 401, End: 500}}, {func(r *api.Request) { r.From = 400; r.Options = api.FlagPostdated }, 0, 0, api.Times{Auth: 100, Start: 100, End: 500}},
		{func(r *api.Request) {
			r.Options = api.FlagForwardable | api.OptionRenewableOK | api.FlagRenewable
			r.Renew = 800
		}, 0, api.FlagForwardable | api.FlagRenewable, api.Times{Auth: 100, Start: 100, End: 500, Renew: 800}}, {func(r *api.Request) { r.Renew = 800 }, 0, 0, api.Times{Auth: 100, Start: 100, End: 500}}, {func(r *api.Request) { r.Options = api.FlagRenewable; r.Renew = 400 }, 0, 0, api.Times{Auth: 100, Start: 100, End: 500}}, {func(r *api.Request) { r.Options = api.FlagForwarded }, api.CodeBadOption, 0, api.Times{}}, {func(r *api.Request) { r.Options = api.OptionRenew }, api.CodeBadOption, 0, api.Times{}},
	} {
		r := request()
		x.change(&r)
		r = stamp(r, key(1), 100)
		if x.code != 0 {
			b.refused(t, "flags", r, 100, x.code)
			continue
		}
		if _, p, _ := b.granted(t, r, 100, key(2), key(1)); p.Flags != x.flags|api.FlagInitial|api.FlagPreAuth || p.Times != x.times {
			t.Error(i, p.Flags, p.Times)
		}
	}
	b.change("u@R", func(e *api.Entry) { e.Attributes |= api.AttrNoForward | api.AttrNoPostdate; e.MaxLife = 200 })
	r := request()
	r.Options, r.From = api.FlagPostdated, 500
	b.refused(t, "denied", stamp(r, key(1), 100), 100, api.CodeNoPostdate)
	r.Options, r.From, r.Addresses = api.FlagForwardable, 0, []api.Address{{Kind: 20, Bytes: []byte("h")}}
	_, p, q := b.granted(t, stamp(r, key(1), 100), 100, key(2), key(1))
	if p.Flags&api.FlagForwardable != 0 || p.Times.End != 300 || len(p.Addresses) != 1 || len(q.Addresses) != 1 {
		t.Error(p, q)
	}
}

func TestGenerator(t *testing.T) {
	b := start()
	g := b.g.Copy()
	b.refused(t, "needed", request(), 100, api.CodePreAuthNeeded, 19, 2)
	_, p, _ := b.granted(t, good(), 100, key(2), key(1))
	k, _ := g.Key(1, 16)
	first, _ := g.Bytes(16)
	second, _ := g.Bytes(16)
	y := start().ask(t, good(), 100)
	sealed, _ := ticket.Seal(key(2), principal("krbtgt/R@R"), p, first)
	part, _ := message.SealPart(10, key(1), api.ReplyPart{Session: k, Nonce: 7, Flags: p.Flags, Times: p.Times, Service: principal("krbtgt/R@R")}, second)
	if !profile.Equal(k, p.Session) || !ticket.Equal(sealed, y.Reply.Ticket) || !bytes.Equal(part.Bytes, y.Reply.Sealed.Bytes) {
		t.Error("random bytes")
	}
	a, _ := g.Bytes(4)
	c, _ := b.g.Bytes(4)
	if !bytes.Equal(a, c) {
		t.Error("generator")
	}
}

func TestPake(t *testing.T) {
	b := start()
	b.c.PakeGroup = 3
	r := request()
	body, _ := message.Body(r)
	x, _ := pake.Start(pake.SideClient, 3, key(1).Bytes, body, fill(32, 5))
	with := func(l ...[]byte) api.Request {
		q := request()
		q.PreAuth = []api.PreAuth{{Kind: 151, Bytes: bytes.Join(l, nil)}}
		return q
	}
	for i, bad := range [][]byte{nil, x.Element()[1:], append(x.Element(), 0), make([]byte, 4), make([]byte, 36), append(x.Element(), fill(32, 1)...)} {
		y := b.refused(t, "pake", with(bad), 100, api.CodePreAuthFailed, 19, 2, 151)
		if u, _ := b.d.Get(principal("u@R")); u.Fails != i+1 {
			t.Error(i, u.Fails, y.Fact)
		}
	}
	y := b.refused(t, "first", with(x.Element()), 100, api.CodeMorePreAuth, 151)
	again := b.refused(t, "again", with(x.Element()), 100, api.CodeMorePreAuth, 151)
	if !bytes.Equal(y.Failure.Data[0].Bytes, again.Failure.Data[0].Bytes) || x.Finish(y.Failure.Data[0].Bytes) != api.OK {
		t.Fatal("finish")
	}
	confirmation, _ := x.Confirm()
	k, _ := x.Key()
	z, p, _ := b.granted(t, with(x.Element(), confirmation), 100, key(2), api.Key{Profile: 1, Bytes: k[:16]})
	if p.Flags != api.FlagInitial|api.FlagPreAuth || z.Fact.PreAuth != 151 || len(z.Reply.PreAuth) != 1 || z.Reply.PreAuth[0].Kind != 151 || x.Verify(z.Reply.PreAuth[0].Bytes) != api.OK || z.Reply.Sealed.Version != 0 {
		t.Error(p.Flags, z.Fact)
	}
	if u, _ := b.d.Get(principal("u@R")); u.Fails != 0 {
		t.Error(u.Fails)
	}
	long := with(x.Element())
	for i := range 16 {
		long.Addresses = append(long.Addresses, api.Address{Kind: 20, Bytes: fill(16, byte('a'+i))})
		long.Tickets = append(long.Tickets, api.Ticket{Service: principal("s@R"), Sealed: api.Sealed{Profile: 1, Bytes: fill(300, 1)}})
	}
	b.refused(t, "policy", long, 100, api.CodePolicy)
	b.change("krbtgt/R@R", func(e *api.Entry) {
		e.Name = principal("s@R")
		b.d.Remove(principal("krbtgt/R@R"))
	})
	q := with(x.Element())
	q.Service = principal("s@R")
	b.refused(t, "no key", q, 100, api.CodeNoKey)
	b.change("s@R", func(e *api.Entry) { e.Aliases = []api.Principal{principal("krbtgt/R@R")} })
	b.refused(t, "an alias's key", q, 100, api.CodeNoKey)
}

// chain returns the chain of a subject whose private key is 00 and a byte.
func chain(subject string, private byte) []api.Cert {
	public, _ := sign.Public(1, []byte{0, private})
	c, _ := cert.Issue(api.Cert{Serial: int(private), Issuer: principal("ca@R"), Subject: principal(subject), Until: 1000, Group: 1, Public: public}, 1, []byte{0, 6}, []byte{7})
	return []api.Cert{c}
}

func TestPublic(t *testing.T) {
	b := start()
	b.c.Anchors = []api.Anchor{{Name: principal("ca@R"), Group: 1, Public: []byte{4, 0xc1}}}
	b.c.Chain, b.c.Private = chain("krbtgt/R@R", 9), []byte{0, 9}
	with := func(subject string, time int) api.Request {
		r := request()
		p, e := pkinit.Ask(chain(subject, 2), []byte{0, 2}, 3, fill(32, 3), r, time, fill(32, 4))
		if e != api.OK {
			t.Fatal(e)
		}
		r.PreAuth = []api.PreAuth{p}
		return r
	}
	b.refused(t, "name", with("v@R", 100), 100, api.CodePreAuthFailed, 19, 2, 16)
	b.refused(t, "skew", with("u@R", 401), 100, api.CodeSkew)
	b.change("u@R", func(e *api.Entry) { e.Keys = nil })
	g := b.g.Copy()
	r := with("u@R", 100)
	y := b.ask(t, r, 100)
	session, _ := g.Key(1, 16)
	dh, _ := g.Bytes(32)
	nonce, _ := g.Bytes(32)
	q, _ := pkinit.Check(r.PreAuth[0], b.c.Anchors, nil, r, 100, 300)
	a, k, _ := pkinit.Answer(q, b.c.Chain, b.c.Private, dh, nonce, 1)
	if y.Fact.Code != 0 || y.Fact.PreAuth != 16 || len(y.Reply.PreAuth) != 1 || !bytes.Equal(y.Reply.PreAuth[0].Bytes, a.Bytes) {
		t.Fatal(y.Fact)
	}
	f, e := pkinit.Finish(r.PreAuth[0], y.Reply.PreAuth[0], b.c.Anchors, nil, fill(32, 3), r, 100, 1)
	p, h := message.OpenPart(10, f, y.Reply.Sealed)
	if e != api.OK || h != api.OK || !profile.Equal(f, k) || !profile.Equal(p.Session, session) {
		t.Error(e, h)
	}
	b.c.Private = []byte{9}
	before := b.g.Copy()
	b.refused(t, "generic", with("u@R", 100), 100, api.CodeGeneric)
	before.Key(1, 16)
	for _, n := range []int{32, 32, 16, 16} {
		before.Bytes(n)
	}
	x, _ := before.Bytes(3)
	z, _ := b.g.Bytes(3)
	if !bytes.Equal(x, z) {
		t.Error("random bytes")
	}
}
