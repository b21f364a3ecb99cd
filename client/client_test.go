package client_test

import (
	"bytes"
	"testing"

	"watchword/address"
	"watchword/api"
	"watchword/apmessage"
	"watchword/authenticator"
	"watchword/cache"
	"watchword/cert"
	"watchword/client"
	"watchword/database"
	"watchword/entry"
	"watchword/kdc"
	"watchword/lifetime"
	"watchword/message"
	"watchword/name"
	"watchword/pake"
	"watchword/profile"
	"watchword/random"
	"watchword/referral"
	"watchword/route"
	"watchword/sign"
	"watchword/ticket"
	"watchword/timestamp"
)

func principal(s string) api.Principal {
	p, e := name.Parse(s)
	if e != api.OK {
		panic(s)
	}
	return p
}

func fill(n int, b byte) []byte { return bytes.Repeat([]byte{b}, n) }

func key(b byte) api.Key { return api.Key{Profile: 1, Version: 1, Bytes: fill(16, b)} }

func config() api.ClientConfig {
	return api.ClientConfig{Client: principal("u@R"), Password: []byte("secret"), Profiles: []int{1}, Method: api.PreAuthTimestamp, Skew: 300, Life: 100}
}

func start(t *testing.T, change func(*api.ClientConfig)) *client.Client {
	t.Helper()
	c := config()
	if change != nil {
		change(&c)
	}
	x, e := client.New(c, []byte("seed"))
	if e != api.OK {
		t.Fatal(e)
	}
	return x
}

func goal(s string) api.Goal { return api.Goal{Service: principal(s)} }

// password returns the key of u's password.
func password() api.Key {
	k, _ := profile.FromPassword(1, "secret", "Ru", 4)
	k.Version = 1
	return k
}

// centre returns the centre of a realm; R has u, s and krbtgt/R, and knows other realms.
func centre(t *testing.T, realm string, attributes api.Attributes, change func(*api.CentreConfig)) *kdc.Centre {
	t.Helper()
	d, _ := database.New(realm)
	keyed := func(s string, k api.Key) api.Entry {
		return api.Entry{Name: principal(s + "@" + realm), Keys: []api.KeySet{{Version: 1, Keys: []api.Key{k}}}}
	}
	u := keyed("u", password())
	u.Keys[0].Salt, u.Keys[0].Iterations, u.Attributes = "Ru", 4, attributes
	s := keyed("s", key(3))
	s.Attributes, s.Targets = api.AttrForUser, []api.Principal{principal("t@" + realm)}
	s.Aliases = []api.Principal{principal("alias@" + realm)}
	for _, e := range []api.Entry{u, s, keyed("t", key(4)), keyed("krbtgt/"+realm, key(1))} {
		d.Put(e)
	}
	m := &route.Map{}
	for _, p := range [][2]string{{"R", "S"}, {"S", "T"}} {
		m.Trust(p[0], p[1])
		if p[0] == realm {
			d.Put(keyed("krbtgt/"+p[1], key(p[1][0])))
		}
		if p[1] == realm {
			d.Put(keyed("trusted/"+p[0], key(realm[0])))
		}
	}
	policy := &route.Policy{}
	policy.Allow("R", "T", "S")
	c := api.CentreConfig{Realm: realm, Skew: 300, Life: 1000, Renew: 5000, Allowed: api.FlagForwardable | api.FlagRenewable, PakeGroup: 3}
	if change != nil {
		change(&c)
	}
	x, e := kdc.New(c, d, m, policy, &referral.Hosts{}, []byte(realm))
	if e != api.OK {
		t.Fatal(e)
	}
	return x
}

// reach lets a client reach a goal with centres, and returns the last step and the number of messages.
func reach(t *testing.T, c *client.Client, g api.Goal, now int, centres ...*kdc.Centre) (api.Step, int) {
	t.Helper()
	s, e := c.Start(g, now, 7)
	n := 0
	for ; e == api.OK && s.Kind == api.StepSend; n++ {
		found := false
		for _, x := range centres {
			if x.Realm() == s.Realm {
				found = true
				o, f := x.Handle(s.Bytes, api.Address{}, now, 0)
				if f != api.OK {
					t.Fatal(f)
				}
				s, e = c.Receive(o.Reply, now, 8)
				break
			}
		}
		if !found || n > 30 {
			t.Fatal(s.Realm, n)
		}
	}
	if e != api.OK || c.Busy() {
		t.Fatal(e)
	}
	return s, n
}

func TestNew(t *testing.T) {
	for i, v := range []struct {
		change func(*api.ClientConfig)
		ok     bool
	}{
		{func(*api.ClientConfig) {}, true}, {func(c *api.ClientConfig) { c.Client = api.Principal{} }, false}, {func(c *api.ClientConfig) { c.Password = fill(128, 1) }, true}, {func(c *api.ClientConfig) { c.Password = fill(129, 1) }, false}, {func(c *api.ClientConfig) { c.Profiles = nil }, false}, {func(c *api.ClientConfig) { c.Profiles = []int{2, 1} }, true}, {func(c *api.ClientConfig) { c.Profiles = []int{1, 1} }, false}, {func(c *api.ClientConfig) { c.Profiles = []int{3} }, false}, {func(c *api.ClientConfig) { c.Method = 19 }, false}, {func(c *api.ClientConfig) { c.Method = api.PreAuthPake }, false}, {func(c *api.ClientConfig) { c.Method = api.PreAuthPake; c.Group = 4 }, true}, {func(c *api.ClientConfig) { c.Group = 5 }, false}, {func(c *api.ClientConfig) { c.Group = -1 }, false}, {func(c *api.ClientConfig) { c.Chain = make([]api.Cert, 1) }, false}, {func(c *api.ClientConfig) { c.Method, c.Group = api.PreAuthPublic, 1 }, false}, {func(c *api.ClientConfig) { c.Method, c.Group, c.Chain = api.PreAuthPublic, 1, make([]api.Cert, 5) }, true}, {func(c *api.ClientConfig) { c.Method, c.Group, c.Chain = api.PreAuthPublic, 1, make([]api.Cert, 6) }, false},
		{func(c *api.ClientConfig) { c.Life, c.Skew = 1, 0 }, true}, {func(c *api.ClientConfig) { c.Life, c.Renew, c.Skew = 1<<31, 1<<31, 86400 }, true}, {func(c *api.ClientConfig) { c.Profiles = []int{2} }, true}, {func(c *api.ClientConfig) { c.Anchors, c.Revoked = make([]api.Anchor, 64), make([]api.Revocation, 64) }, true}, {func(c *api.ClientConfig) { c.Renew = 1<<31 + 1 }, false},
		{func(c *api.ClientConfig) { c.Anchors = make([]api.Anchor, 65) }, false}, {func(c *api.ClientConfig) { c.Revoked = make([]api.Revocation, 65) }, false}, {func(c *api.ClientConfig) { c.Skew = -1 }, false}, {func(c *api.ClientConfig) { c.Skew = 86401 }, false}, {func(c *api.ClientConfig) { c.Life = 0 }, false}, {func(c *api.ClientConfig) { c.Life = 1<<31 + 1 }, false}, {func(c *api.ClientConfig) { c.Renew = -1 }, false}, {func(c *api.ClientConfig) { c.Options = api.FlagPostdated }, false}, {func(c *api.ClientConfig) { c.Addresses = make([]api.Address, 1) }, false},
	} {
		c := config()
		v.change(&c)
		if x, e := client.New(c, []byte("s")); (e == api.OK) != v.ok || !v.ok && (x != nil || e != api.ErrArg) {
			t.Error(i, e)
		}
	}
	if _, e := client.New(config(), nil); e != api.ErrArg {
		t.Error(e)
	}
	given := config()
	x, _ := client.New(given, []byte("s"))
	given.Password[0], given.Profiles[0] = 'x', 2
	x.Config().Password[1] = 'y'
	if c := x.Config(); string(c.Password) != "secret" || c.Profiles[0] != 1 || !name.Equal(c.Client, principal("u@R")) {
		t.Error(c)
	}
	for _, x := range []*client.Client{nil, {}} {
		_, e1 := x.Start(api.Goal{}, -1, 0)
		_, e2 := x.Receive(nil, -1, 0)
		_, _, e3 := x.Call(api.Principal{}, api.Principal{}, true, true, -1, 0)
		_, e4 := x.Reply(nil)
		for i, e := range []api.Errno{e1, e2, e3, e4, x.Cancel(), x.SetCache(&cache.Cache{})} {
			if e != api.ErrNil {
				t.Error(i, e)
			}
		}
		if x.Busy() || x.Cache() != nil || x.Copy() != nil || x.Config().Life != 0 {
			t.Error("zero")
		}
	}
	if x.SetCache(nil) != api.ErrNil {
		t.Error("cache")
	}
}

func TestGoals(t *testing.T) {
	evidence := api.Ticket{Service: principal("u@R"), Sealed: api.Sealed{Profile: 1, Bytes: []byte{1}}}
	for i, v := range []struct {
		g    api.Goal
		want api.Errno
	}{
		{goal("s@R"), api.OK}, {api.Goal{}, api.ErrArg}, {api.Goal{Service: principal("s@R"), Options: api.FlagInitial}, api.ErrArg}, {api.Goal{Service: principal("s@R"), User: api.Principal{Realm: "R"}}, api.ErrArg}, {api.Goal{Service: principal("s@R"), Options: api.OptionRenew}, api.ErrArg}, {api.Goal{Service: principal("krbtgt/R@S"), Options: api.OptionRenew}, api.ErrArg}, {api.Goal{Service: principal("krbtgt/R@R"), Options: api.OptionRenew}, api.ErrNone}, {api.Goal{Service: principal("krbtgt/R@R"), Options: api.OptionRenew, User: principal("v@R")}, api.ErrArg}, {api.Goal{Service: principal("krbtgt/R@R"), Options: api.OptionRenew, Evidence: evidence}, api.ErrArg},
		{api.Goal{Service: principal("u@R"), User: principal("v@R")}, api.OK}, {api.Goal{Service: principal("s@R"), User: principal("v@R")}, api.ErrArg}, {api.Goal{Service: principal("u@R"), User: principal("v@R"), Evidence: evidence}, api.ErrArg}, {api.Goal{Service: principal("s@R"), Evidence: evidence}, api.ErrArg}, {api.Goal{Service: principal("s@R"), Options: api.OptionConstrained, User: principal("v@R"), Evidence: evidence}, api.OK}, {api.Goal{Service: principal("s@R"), Options: api.OptionConstrained, Evidence: evidence}, api.ErrArg}, {api.Goal{Service: principal("s@R"), Options: api.OptionConstrained, User: principal("v@R")}, api.ErrArg},
	} {
		c := start(t, nil)
		if _, e := c.Start(v.g, 10, 0); e != v.want || c.Busy() != (e == api.OK) {
			t.Error(i, e)
		}
	}
	c := start(t, nil)
	for _, v := range [][2]int{{-1, 0}, {1<<40 + 1, 0}, {1, -1}, {1, 1000000}} {
		_, e := c.Start(goal("s@R"), v[0], v[1])
		_, f := c.Receive(nil, v[0], v[1])
		_, _, g := c.Call(principal("u@R"), principal("s@R"), true, true, v[0], v[1])
		if e != api.ErrArg || f != api.ErrArg || g != api.ErrArg {
			t.Error(v, e, f, g)
		}
	}
}

func TestStart(t *testing.T) {
	c := start(t, func(c *api.ClientConfig) {
		c.Renew, c.Options, c.Addresses = 1000, api.FlagRenewable, []api.Address{{Kind: address.KindHost, Bytes: []byte("h")}}
	})
	_, e := c.Receive(nil, 10, 0)
	if e != api.ErrState || c.Cancel() != api.ErrState {
		t.Error(e)
	}
	for i, set := range []func(*api.ClientConfig){func(c *api.ClientConfig) { c.Renew = 1000 }, func(c *api.ClientConfig) { c.Options = api.FlagRenewable }} {
		s, _ := start(t, set).Start(goal("s@R"), 10, 0)
		if r, e := message.DecodeRequest(s.Bytes); e != api.OK || r.Renew != 0 {
			t.Error(i, r.Renew, e)
		}
	}
	g, _ := random.New([]byte("seed"))
	nonce, _ := g.Number(api.MaxSeq)
	s, e := c.Start(goal("s@R"), 10, 0)
	r, f := message.DecodeRequest(s.Bytes)
	if e != api.OK || f != api.OK || s.Kind != api.StepSend || s.Realm != "R" || r.Kind != 10 || len(r.PreAuth) != 0 || r.Options != api.FlagRenewable || !name.Equal(r.Client, principal("u@R")) || !name.Equal(r.Service, principal("krbtgt/R@R")) || r.From != 0 || r.Till != 110 || r.Renew != 1010 || r.Nonce != nonce || len(r.Profiles) != 1 || len(r.Addresses) != 1 {
		t.Error(s, r, e, f)
	}
	if _, e := c.Start(goal("s@R"), 10, 0); e != api.ErrState {
		t.Error(e)
	}
	d := c.Copy()
	if c.Cancel() != api.OK || c.Busy() || !d.Busy() {
		t.Error("cancel")
	}
	salt, _ := entry.EncodeOffer([]api.Salt{{Profile: 1, Salt: "Ru", Iterations: 4}})
	failure := func(code int, l ...api.PreAuth) []byte {
		b, _ := message.EncodeFailure(api.Failure{Code: code, Service: principal("krbtgt/R@R"), Data: l})
		return b
	}
	for i, b := range [][]byte{nil, {1}, s.Bytes, failure(25)[1:], append(failure(25), 0), {0x6b, 0}, {0x6d, 0}} {
		if s, e := d.Copy().Receive(b, 10, 0); e != api.ErrFormat || s.Kind != 0 {
			t.Error(i, e)
		}
	}
	offers := []api.PreAuth{{Kind: 19, Bytes: salt}, {Kind: 2}}
	x := d.Copy()
	s, e = x.Receive(failure(25, offers...), 20, 5)
	q, _ := message.DecodeRequest(s.Bytes)
	k := password()
	k.Version = 0
	confounder, _ := g.Bytes(16)
	want, _ := timestamp.Make(k, 20, 5, confounder)
	if e != api.OK || s.Kind != api.StepSend || s.Realm != "R" || len(q.PreAuth) != 1 || !bytes.Equal(q.PreAuth[0].Bytes, want.Bytes) || q.Nonce != r.Nonce || q.Till != 110 {
		t.Error(s, e)
	}
	if s, e = x.Receive(failure(25, offers...), 20, 5); e != api.OK || s.Kind != api.StepFailed || s.Code != 25 || x.Busy() {
		t.Error(s, e)
	}
	more, _ := entry.EncodeOffer([]api.Salt{{Profile: 1, Salt: "Ru", Iterations: 4}, {Profile: 2, Salt: "other", Iterations: 9}})
	x = start(t, func(c *api.ClientConfig) { c.Profiles = []int{2} })
	x.Start(goal("s@R"), 10, 0)
	s, e = x.Receive(failure(25, api.PreAuth{Kind: 19, Bytes: more}, api.PreAuth{Kind: 2}), 20, 5)
	q, _ = message.DecodeRequest(s.Bytes)
	k, _ = profile.FromPassword(2, "secret", "other", 9)
	want, _ = timestamp.Make(k, 20, 5, confounder)
	if e != api.OK || len(q.PreAuth) != 1 || !bytes.Equal(q.PreAuth[0].Bytes, want.Bytes) {
		t.Error(s, e)
	}
	random, _ := entry.EncodeOffer([]api.Salt{{Profile: 1}})
	for i, l := range [][]api.PreAuth{nil, {{Kind: 2}}, {{Kind: 19, Bytes: salt}}, {{Kind: 19, Bytes: random}, {Kind: 2}}, {{Kind: 19, Bytes: []byte{1}}, {Kind: 2}}} {
		x := d.Copy()
		if s, e := x.Receive(failure(25, l...), 20, 5); e != api.OK || s.Kind != api.StepFailed || s.Code != 25 || x.Busy() {
			t.Error(i, s, e)
		}
	}
	x = d.Copy()
	if s, e := x.Receive(failure(6, offers...), 20, 5); e != api.OK || s.Kind != api.StepFailed || s.Code != 6 || x.Busy() {
		t.Error(s, e)
	}
}

func TestPlain(t *testing.T) {
	for _, attributes := range []api.Attributes{0, api.AttrPreAuth} {
		c, r := start(t, nil), centre(t, "R", attributes, nil)
		s, n := reach(t, c, goal("s@R"), 10, r)
		if s.Kind != api.StepDone || n != 2+int(attributes)/2 || !name.Equal(s.Credential.Service, principal("s@R")) || s.Credential.Times.End != 110 {
			t.Error(s, n)
		}
		p, e := ticket.Open(key(3), s.Credential.Ticket)
		if e != api.OK || !profile.Equal(p.Session, s.Credential.Session) || p.Flags != s.Credential.Flags || p.Times != s.Credential.Times || (p.Flags&api.FlagPreAuth != 0) != (attributes != 0) {
			t.Error(p, e)
		}
		again, n := reach(t, c, goal("s@R"), 20, r)
		if n != 0 || !cache.Equal(again.Credential, s.Credential) {
			t.Error(n)
		}
		with := goal("s@R")
		with.Options = api.OptionCanonical
		if _, n = reach(t, c, with, 20, r); n != 1 {
			t.Error(n)
		}
		with.Service = principal("alias@R")
		if s, n = reach(t, c, with, 20, r); n != 1 || s.Kind != api.StepDone || !name.Equal(s.Credential.Service, principal("s@R")) {
			t.Error(s, n)
		}
		if s, n = reach(t, c, goal("x@R"), 20, r); n != 1 || s.Kind != api.StepFailed || s.Code != api.CodeServiceUnknown {
			t.Error(s, n)
		}
		if s, n = reach(t, start(t, nil), goal("krbtgt/R@R"), 10, r); s.Kind != api.StepDone || n != 1+int(attributes)/2 {
			t.Error(s, n)
		}
		wrong := start(t, func(c *api.ClientConfig) { c.Password = []byte("wrong") })
		step, _ := wrong.Start(goal("s@R"), 10, 0)
		o, _ := r.Handle(step.Bytes, api.Address{}, 10, 0)
		if step, e = wrong.Receive(o.Reply, 10, 0); attributes == 0 {
			if e != api.ErrCheck || !wrong.Busy() {
				t.Error(e)
			}
		} else if o, _ = r.Handle(step.Bytes, api.Address{}, 10, 0); o.Fact.Code != api.CodePreAuthFailed {
			t.Error(o.Fact)
		}
	}
}

// chain returns the chain of a subject whose private key is 00 and a byte.
func chain(subject string, private byte) []api.Cert {
	public, _ := sign.Public(1, []byte{0, private})
	c, _ := cert.Issue(api.Cert{Serial: int(private), Issuer: principal("ca@R"), Subject: principal(subject), Until: 1000, Group: 1, Public: public}, 1, []byte{0, 6}, []byte{7})
	return []api.Cert{c}
}

func TestMethods(t *testing.T) {
	anchors := []api.Anchor{{Name: principal("ca@R"), Group: 1, Public: []byte{4, 0xc1}}}
	r := centre(t, "R", api.AttrPreAuth, func(c *api.CentreConfig) {
		c.Anchors, c.Chain, c.Private = anchors, chain("krbtgt/R@R", 9), []byte{0, 9}
	})
	for _, v := range []struct {
		change   func(*api.ClientConfig)
		messages int
		preAuth  int
	}{
		{func(c *api.ClientConfig) { c.Method, c.Group = api.PreAuthPake, 3 }, 4, 151}, {func(c *api.ClientConfig) { c.Method, c.Group = api.PreAuthPake, 2 }, 3, 2}, {func(c *api.ClientConfig) {
			c.Method, c.Group, c.Chain, c.Private, c.Anchors = api.PreAuthPublic, 3, chain("u@R", 2), []byte{0, 2}, anchors
			c.Password = nil
		}, 3, 16},
	} {
		x := r.Copy()
		s, n := reach(t, start(t, v.change), goal("s@R"), 10, x)
		if s.Kind != api.StepDone || n != v.messages || s.Credential.Flags&api.FlagPreAuth == 0 {
			t.Error(v.preAuth, s, n)
		}
	}
	for i, change := range []func(*api.ClientConfig){func(c *api.ClientConfig) {
		c.Method, c.Group, c.Chain, c.Private, c.Anchors = api.PreAuthPublic, 3, chain("u@R", 2), []byte{2}, anchors
	}, func(c *api.ClientConfig) { c.Profiles = []int{2} }} {
		if s, n := reach(t, start(t, change), goal("s@R"), 10, r.Copy()); s.Kind != api.StepFailed || i == 0 && (s.Code != api.CodePreAuthNeeded || n != 1) {
			t.Error(i, s, n)
		}
	}
	// A wrong password is noticed by the client, or by the centre.
	c := start(t, func(c *api.ClientConfig) { c.Method, c.Group, c.Password = api.PreAuthPake, 3, []byte("wrong") })
	if s, n := reach(t, c, goal("s@R"), 10, r.Copy()); s.Kind != api.StepFailed || s.Code != api.CodePreAuthFailed || n != 3 {
		t.Error(s, n)
	}
	// Without the centre's anchors, its response is refused.
	c = start(t, func(c *api.ClientConfig) {
		c.Method, c.Group, c.Chain, c.Private = api.PreAuthPublic, 3, chain("u@R", 2), []byte{0, 2}
	})
	x := r.Copy()
	s, _ := c.Start(goal("s@R"), 10, 0)
	o, _ := x.Handle(s.Bytes, api.Address{}, 10, 0)
	s, _ = c.Receive(o.Reply, 10, 0)
	o, _ = x.Handle(s.Bytes, api.Address{}, 10, 0)
	if _, e := c.Receive(o.Reply, 10, 0); e != api.ErrCertIssuer || !c.Busy() {
		t.Error(e)
	}
	// The element 1 and other errors in the exchange end it.
	c = start(t, func(c *api.ClientConfig) { c.Method, c.Group = api.PreAuthPake, 3 })
	s, _ = c.Start(goal("s@R"), 10, 0)
	o, _ = r.Copy().Handle(s.Bytes, api.Address{}, 10, 0)
	s, _ = c.Receive(o.Reply, 10, 0)
	q, _ := message.DecodeRequest(s.Bytes)
	if len(q.PreAuth) != 1 || len(q.PreAuth[0].Bytes) != 4 || pake.KeyLen != 32 {
		t.Error(q.PreAuth)
	}
	for i, l := range [][]api.PreAuth{nil, {{Kind: 151, Bytes: []byte{0, 0, 0, 1}}}} {
		b, _ := message.EncodeFailure(api.Failure{Code: 91, Service: principal("krbtgt/R@R"), Data: l})
		d := c.Copy()
		if s, e := d.Receive(b, 10, 0); e != api.OK || s.Kind != api.StepFailed || s.Code != 91 || d.Busy() {
			t.Error(i, s, e)
		}
	}
}

func TestReplies(t *testing.T) {
	r := centre(t, "R", 0, nil)
	c := start(t, nil)
	s, _ := c.Start(goal("s@R"), 10, 0)
	o, _ := r.Handle(s.Bytes, api.Address{}, 10, 0)
	good, _ := message.DecodeReply(o.Reply)
	k := password()
	k.Version = 0
	part, _ := message.OpenPart(10, k, good.Sealed)
	send := func(c *client.Client, kind api.RequestKind, k api.Key, change func(*api.Reply, *api.ReplyPart), good api.Reply, part api.ReplyPart) api.Errno {
		x, p := message.CopyReply(good), message.CopyPart(part)
		change(&x, &p)
		x.Sealed, _ = message.SealPart(kind, k, p, fill(16, 1))
		b, e := message.EncodeReply(x)
		if e != api.OK {
			t.Fatal(e)
		}
		d := c.Copy()
		_, e = d.Receive(b, 10, 0)
		if d.Busy() != (e != api.OK || !c.Busy() || kind == 10) {
			t.Error("busy", e)
		}
		return e
	}
	for i, v := range []struct {
		change func(*api.Reply, *api.ReplyPart)
		want   api.Errno
	}{{func(*api.Reply, *api.ReplyPart) {}, api.OK}, {func(r *api.Reply, _ *api.ReplyPart) { r.Client = principal("v@R") }, api.ErrReply}, {func(_ *api.Reply, p *api.ReplyPart) { p.Nonce++ }, api.ErrReply}, {func(_ *api.Reply, p *api.ReplyPart) { p.Service = principal("x@R") }, api.ErrReply}, {func(r *api.Reply, _ *api.ReplyPart) { r.Ticket.Service = principal("x@R") }, api.ErrReply}, {func(r *api.Reply, _ *api.ReplyPart) { r.PreAuth = nil }, api.ErrReply}} {
		if e := send(c, 10, k, v.change, good, part); e != v.want {
			t.Error(i, e)
		}
	}
	if e := send(c, 10, key(9), func(*api.Reply, *api.ReplyPart) {}, good, part); e != api.ErrCheck {
		t.Error(e)
	}
	s, _ = c.Receive(o.Reply, 10, 0)
	q, _ := message.DecodeRequest(s.Bytes)
	if q.Kind != 12 || len(q.PreAuth) != 1 || q.Till != 110 || q.Renew != 0 || len(q.Addresses)+len(q.Tickets) != 0 {
		t.Error(q)
	}
	o, _ = r.Handle(s.Bytes, api.Address{}, 10, 0)
	grant, _ := message.DecodeReply(o.Reply)
	gp, _ := message.OpenPart(12, part.Session, grant.Sealed)
	for i, v := range []struct {
		change func(*api.Reply, *api.ReplyPart)
		want   api.Errno
	}{{func(*api.Reply, *api.ReplyPart) {}, api.OK}, {func(r *api.Reply, _ *api.ReplyPart) { r.Client = principal("v@R") }, api.ErrReply}, {func(_ *api.Reply, p *api.ReplyPart) { p.Nonce++ }, api.ErrReply}, {func(_ *api.Reply, p *api.ReplyPart) { p.Service = principal("x@R") }, api.ErrReply}, {func(r *api.Reply, p *api.ReplyPart) { r.Ticket.Service, p.Service = principal("x@R"), principal("x@R") }, api.ErrReply}, {func(r *api.Reply, p *api.ReplyPart) {
		r.Ticket.Service, p.Service = principal("krbtgt/R@R"), principal("krbtgt/R@R")
	}, api.ErrReply}, {func(r *api.Reply, p *api.ReplyPart) {
		r.Ticket.Service, p.Service = principal("krbtgt/Y@S"), principal("krbtgt/Y@S")
	}, api.ErrReply}} {
		if e := send(c, 12, part.Session, v.change, grant, gp); e != v.want {
			t.Error(i, e)
		}
	}
	b, _ := message.EncodeReply(good)
	if _, e := c.Receive(b, 10, 0); e != api.ErrFormat {
		t.Error(e)
	}
}

func TestReferrals(t *testing.T) {
	r, s, u := centre(t, "R", 0, nil), centre(t, "S", 0, nil), centre(t, "T", 0, nil)
	c := start(t, nil)
	step, n := reach(t, c, goal("s@T"), 10, r, s, u)
	if step.Kind != api.StepDone || n != 4 || !name.Equal(step.Credential.Service, principal("s@T")) {
		t.Error(step, n)
	}
	p, e := ticket.Open(key(3), step.Credential.Ticket)
	if e != api.OK || len(p.Transited) != 1 || p.Transited[0] != "S" {
		t.Error(p, e)
	}
	var services []string
	for _, x := range c.Cache().Credentials() {
		text, _ := name.Text(x.Service)
		services = append(services, text)
	}
	if len(services) != 4 {
		t.Error(services)
	}
	if step, n = reach(t, c, goal("t@T"), 10, r, s, u); n != 1 || step.Kind != api.StepDone {
		t.Error(step, n)
	}
	// An endless row of referrals ends.
	c = start(t, nil)
	step, _ = c.Start(goal("s@Z"), 10, 0)
	o, _ := r.Handle(step.Bytes, api.Address{}, 10, 0)
	step, _ = c.Receive(o.Reply, 10, 0)
	k := password()
	k.Version = 0
	first, _ := message.DecodeReply(o.Reply)
	part, _ := message.OpenPart(10, k, first.Sealed)
	session := part.Session
	hops := 0
	for step.Kind == api.StepSend {
		q, _ := message.DecodeRequest(step.Bytes)
		to := "A" + string(rune('A'+hops))
		service, _ := name.TicketGranting(to, step.Realm)
		part.Nonce, part.Service, part.Session = q.Nonce, service, session
		sealed, _ := message.SealPart(12, session, part, fill(16, 1))
		b, _ := message.EncodeReply(api.Reply{Kind: 12, Client: principal("u@R"), Ticket: api.Ticket{Service: service, Sealed: api.Sealed{Profile: 1}}, Sealed: sealed})
		var e api.Errno
		if step, e = c.Receive(b, 10, 0); e != api.OK {
			t.Fatal(e)
		}
		hops++
	}
	if step.Kind != api.StepFailed || step.Code != api.CodePath || hops != client.MaxHops+1 || c.Busy() {
		t.Error(step, hops)
	}
}

func TestRenewAndDelegate(t *testing.T) {
	r := centre(t, "R", 0, nil)
	c := start(t, func(c *api.ClientConfig) {
		c.Renew, c.Options = 1000, api.FlagRenewable|api.FlagForwardable
	})
	reach(t, c, goal("s@R"), 10, r)
	renew := api.Goal{Service: principal("krbtgt/R@R"), Options: api.OptionRenew | api.FlagForwardable}
	s, n := reach(t, c, renew, 50, r)
	if s.Kind != api.StepDone || n != 1 || s.Credential.Times.End != 150 || s.Credential.Times.Auth != 10 {
		t.Error(s, n)
	}
	u, _ := c.Cache().Get(principal("u@R"), principal("s@R"))
	if u.Flags&(api.FlagForwardable|api.FlagRenewable) != api.FlagForwardable|api.FlagRenewable {
		t.Error(u.Flags)
	}
	d := r.Database()
	e, _ := d.Get(principal("s@R"))
	k, _ := profile.FromPassword(1, "secret", "Ru", 4)
	k.Version = 2
	e, _ = entry.Add(e, api.KeySet{Version: 2, Keys: []api.Key{k}, Salt: "Ru", Iterations: 4})
	d.Put(e)
	r.SetDatabase(d)
	w := start(t, func(c *api.ClientConfig) { c.Client, c.Options = principal("s@R"), api.FlagForwardable })
	s, n = reach(t, w, api.Goal{Service: principal("s@R"), User: principal("u@R")}, 60, r)
	if s.Kind != api.StepDone || n != 2 || !name.Equal(s.Credential.Client, principal("u@R")) {
		t.Fatal(s, n)
	}
	s, n = reach(t, w, api.Goal{Service: principal("t@R"), User: principal("u@R"), Options: api.OptionConstrained, Evidence: s.Credential.Ticket}, 60, r)
	if s.Kind != api.StepDone || n != 1 || !name.Equal(s.Credential.Client, principal("u@R")) || !name.Equal(s.Credential.Service, principal("t@R")) {
		t.Error(s, n)
	}
	long := api.Ticket{Service: principal("s@R"), Sealed: api.Sealed{Profile: 1, Bytes: fill(65536, 1)}}
	if _, e := w.Start(api.Goal{Service: principal("t@R"), User: principal("u@R"), Options: api.OptionConstrained, Evidence: long}, 60, 0); e != api.ErrArg || w.Busy() {
		t.Error(e)
	}
}

func TestCall(t *testing.T) {
	c, r := start(t, nil), centre(t, "R", 0, nil)
	u, s := principal("u@R"), principal("s@R")
	if _, _, e := c.Call(u, s, true, true, 10, 0); e != api.ErrNone {
		t.Error(e)
	}
	step, _ := reach(t, c, goal("s@R"), 10, r)
	x := step.Credential
	if _, _, e := c.Call(u, s, true, true, 1000, 0); e != lifetime.ErrExpired {
		t.Error(e)
	}
	if _, e := c.Reply(nil); e != api.ErrState {
		t.Error(e)
	}
	for _, mutual := range []bool{true, false} {
		for _, subkey := range []bool{true, false} {
			d := c.Copy()
			b, est, e := d.Call(u, s, mutual, subkey, 20, 6)
			q, f := apmessage.DecodeRequest(b)
			a, g := authenticator.Open(x.Session, api.UsageService, q.Sealed)
			want := x.Session
			if subkey {
				want = a.Subkey
			}
			if e != api.OK || f != api.OK || g != api.OK || q.Mutual != mutual || !ticket.Equal(q.Ticket, x.Ticket) || !name.Equal(a.Client, u) || a.Time != 20 || a.Micro != 6 || len(a.Sum) != 0 || a.Seq != est.Send || est.Receive != 0 || (a.Subkey.Profile != 0) != subkey || !profile.Equal(est.Stream, want) {
				t.Error(a, est, e, f, g)
			}
			own := api.Key{Profile: 2, Bytes: fill(32, 4)}
			reply, _ := apmessage.SealReply(x.Session, api.ServiceReply{Time: 20, Micro: 6, Seq: 99}, fill(16, 1))
			keyed, _ := apmessage.SealReply(x.Session, api.ServiceReply{Time: 20, Micro: 6, Seq: 98, Subkey: own}, fill(16, 1))
			other, _ := apmessage.SealReply(x.Session, api.ServiceReply{Time: 20, Micro: 7}, fill(16, 1))
			sealed, _ := apmessage.SealReply(key(8), api.ServiceReply{Time: 20, Micro: 6}, fill(16, 1))
			if !mutual {
				if _, e := d.Reply(reply); e != api.ErrState {
					t.Error(e)
				}
				continue
			}
			_, e1 := d.Reply(other)
			_, e2 := d.Reply(sealed)
			_, e3 := d.Reply(nil)
			k, e4 := d.Copy().Reply(keyed)
			y, e5 := d.Reply(reply)
			_, e6 := d.Reply(reply)
			if e1 != api.ErrReply || e2 != api.ErrCheck || e3 != api.ErrFormat || e4 != api.OK || e5 != api.OK || e6 != api.ErrState || !profile.Equal(k.Stream, own) || k.Receive != 98 || k.Send != est.Send || !profile.Equal(y.Stream, want) || y.Receive != 99 {
				t.Error(e1, e2, e3, e4, e5, e6, k, y)
			}
			d.Call(u, s, true, false, 20, 6)
			d.Call(u, s, false, false, 20, 6)
			if _, e := d.Reply(reply); e != api.ErrState {
				t.Error("pending", e)
			}
		}
	}
	d := c.Copy()
	k := c.Cache()
	k.Remove(u, s)
	if d.SetCache(k) != api.OK {
		t.Error("set")
	}
	if _, _, e := d.Call(u, s, true, true, 20, 0); e != api.ErrNone {
		t.Error(e)
	}
	if _, _, e := c.Call(u, s, true, true, 20, 0); e != api.OK {
		t.Error(e)
	}
}
