package kdc_test

import (
	"bytes"
	"slices"
	"testing"

	"watchword/api"
	"watchword/database"
	"watchword/delegate"
	"watchword/initial"
	"watchword/kdc"
	"watchword/message"
	"watchword/name"
	"watchword/random"
	"watchword/referral"
	"watchword/route"
	"watchword/timestamp"
)

func principal(s string) api.Principal {
	p, e := name.Parse(s)
	if e != api.OK {
		panic(s)
	}
	return p
}

func fill(n int, b byte) []byte { return bytes.Repeat([]byte{b}, n) }

func key(b byte) api.Key { return api.Key{Profile: 1, Version: 1, Bytes: fill(16, b)} }

func config() api.CentreConfig { return api.CentreConfig{Realm: "R", Skew: 300, Life: 1000} }

func data() *database.Database {
	d, _ := database.New("R")
	for i, s := range []string{"u@R", "krbtgt/R@R"} {
		d.Put(api.Entry{Name: principal(s), Aliases: []api.Principal{principal("alias" + string(rune('a'+i)) + "@R")}, Attributes: api.AttrPreAuth, Keys: []api.KeySet{{Version: 1, Keys: []api.Key{key(byte(i + 1))}}}})
	}
	return d
}

func start(t *testing.T) *kdc.Centre {
	t.Helper()
	x, e := kdc.New(config(), data(), &route.Map{}, &route.Policy{}, &referral.Hosts{}, []byte("seed"))
	if e != api.OK {
		t.Fatal(e)
	}
	return x
}

func request(k api.Key) api.Request {
	r := api.Request{Kind: api.RequestInitial, Client: principal("u@R"), Service: principal("krbtgt/R@R"), Till: 500, Nonce: 7, Profiles: []int{1}}
	if k.Profile != 0 {
		p, _ := timestamp.Make(k, 100, 3, fill(16, 9))
		r.PreAuth = []api.PreAuth{p}
	}
	return r
}

func encoded(r api.Request) []byte {
	b, e := message.EncodeRequest(r)
	if e != api.OK {
		panic(e)
	}
	return b
}

func TestNew(t *testing.T) {
	m, p, h := &route.Map{}, &route.Policy{}, &referral.Hosts{}
	other, _ := database.New("S")
	bad := config()
	bad.Life = 0
	for i, v := range []struct {
		c    api.CentreConfig
		d    *database.Database
		m    *route.Map
		p    *route.Policy
		h    *referral.Hosts
		seed []byte
		want api.Errno
	}{{config(), data(), m, p, h, []byte("s"), api.OK}, {bad, nil, m, p, h, nil, api.ErrNil}, {config(), &database.Database{}, m, p, h, []byte("s"), api.ErrNil}, {config(), data(), nil, p, h, []byte("s"), api.ErrNil}, {config(), data(), m, nil, h, []byte("s"), api.ErrNil}, {config(), data(), m, p, nil, []byte("s"), api.ErrNil}, {bad, data(), m, p, h, []byte("s"), api.ErrArg}, {config(), other, m, p, h, []byte("s"), api.ErrArg}, {config(), data(), m, p, h, nil, api.ErrArg}, {config(), data(), m, p, h, make([]byte, 1025), api.ErrArg}} {
		if x, e := kdc.New(v.c, v.d, v.m, v.p, v.h, v.seed); e != v.want || (x == nil) != (e != api.OK) {
			t.Error(i, e)
		}
	}
	d := data()
	x, _ := kdc.New(config(), d, m, p, h, []byte("s"))
	d.Remove(principal("u@R"))
	if x.Database().Len() != 2 || x.Realm() != "R" {
		t.Error("shared")
	}
	x.Database().Remove(principal("u@R"))
	if x.Database().Len() != 2 || x.SetDatabase(nil) != api.ErrNil || x.SetDatabase(&database.Database{}) != api.ErrNil || x.SetDatabase(other) != api.ErrArg || x.SetDatabase(d) != api.OK || !x.Database().Equal(d) {
		t.Error("database")
	}
	d.PutPolicy(api.Policy{Name: "p", Length: 1, Classes: 1})
	if x.Database().Equal(d) {
		t.Error("shared")
	}
	for _, x := range []*kdc.Centre{nil, {}} {
		o, e := x.Handle(nil, api.Address{Kind: 2}, -1, 0)
		if e != api.ErrNil || len(o.Reply) != 0 || x.Realm() != "" || x.Database() != nil || x.SetDatabase(d) != api.ErrNil || x.Copy() != nil {
			t.Error(e)
		}
	}
}

func TestHandle(t *testing.T) {
	x := start(t)
	reply, _ := x.Copy().Handle(encoded(request(key(1))), api.Address{}, 100, 5)
	for i, b := range [][]byte{nil, {1}, reply.Reply, append(encoded(request(key(1))), 0)} {
		o, e := x.Handle(b, api.Address{Kind: 20, Bytes: []byte("h")}, 100, 5)
		f, g := message.DecodeFailure(o.Reply)
		if e != api.OK || g != api.OK || f.Code != api.CodeMessage || f.Time != 100 || f.Micro != 5 || len(f.Client.Parts) != 0 || !name.Equal(f.Service, principal("krbtgt/R@R")) || f.Text != "" || len(f.Data) != 0 {
			t.Error(i, e, f)
		}
		a := o.Fact
		if a.Code != api.CodeMessage || a.Kind != 0 || a.Time != 100 || a.Micro != 5 || string(a.From.Bytes) != "h" || len(a.Client.Parts)+len(a.Service.Parts) != 0 || o.Touched {
			t.Error(i, a)
		}
	}
	for i, v := range []struct {
		from       api.Address
		now, micro int
	}{{api.Address{Kind: 2}, 1, 0}, {api.Address{}, -1, 0}, {api.Address{}, 1<<40 + 1, 0}, {api.Address{}, 1, -1}, {api.Address{}, 1, 1000000}} {
		if o, e := x.Handle(nil, v.from, v.now, v.micro); e != api.ErrArg || len(o.Reply) != 0 || o.Fact.Time != 0 {
			t.Error(i, e)
		}
	}
	for i, r := range []api.Request{request(api.Key{}), request(key(7)), request(key(1))} {
		d := x.Database()
		g, _ := random.New([]byte("seed"))
		want, _ := initial.Answer(config(), d, g, r, api.Address{}, 100, 5)
		y := start(t)
		y.SetDatabase(x.Database())
		before := y.Database()
		o, e := y.Handle(encoded(r), api.Address{}, 100, 5)
		var b []byte
		if want.Fact.Code == 0 {
			b, _ = message.EncodeReply(want.Reply)
		} else {
			b, _ = message.EncodeFailure(want.Failure)
		}
		if e != api.OK || !bytes.Equal(o.Reply, b) || o.Fact.Code != want.Fact.Code || o.Fact.Flags != want.Fact.Flags || !y.Database().Equal(d) || o.Touched != (i > 0) {
			t.Error(i, e, o.Fact)
		}
		if o.Touched {
			u, _ := d.Get(principal("u@R"))
			if !name.Equal(o.Name, u.Name) || o.Fails != u.Fails || o.LastFail != u.LastFail || o.LastSuccess != u.LastSuccess {
				t.Error(i, o)
			}
			before.Touch(o.Name, o.Fails, o.LastFail, o.LastSuccess)
		} else if len(o.Name.Parts) != 0 || o.Fails+o.LastFail+o.LastSuccess != 0 {
			t.Error(i, o)
		}
		if !before.Equal(y.Database()) {
			t.Error(i, "counters")
		}
	}
	alias := request(api.Key{})
	alias.Client, alias.Options = principal("aliasa@R"), api.OptionCanonical
	alias.PreAuth = []api.PreAuth{{Kind: 2}}
	if o, _ := start(t).Handle(encoded(alias), api.Address{}, 100, 5); !o.Touched || !name.Equal(o.Name, principal("u@R")) || o.Fails != 1 || o.Fact.Code != api.CodePreAuthFailed {
		t.Error(o)
	}
}

func TestGrant(t *testing.T) {
	x := start(t)
	r := api.Request{Kind: api.RequestGrant, Service: principal("s@R"), Till: 500, Profiles: []int{1}, Options: api.OptionConstrained}
	if delegate.Of(r) != delegate.KindConstrained {
		t.Error("kind")
	}
	o, e := x.Handle(encoded(r), api.Address{}, 100, 5)
	f, g := message.DecodeFailure(o.Reply)
	if e != api.OK || g != api.OK || f.Code != api.CodePreAuthNeeded || o.Fact.Kind != 12 || o.Fact.Code != api.CodePreAuthNeeded || o.Touched {
		t.Error(o, e, g)
	}
}

func TestCopy(t *testing.T) {
	x := start(t)
	y := x.Copy()
	for range 3 {
		a, _ := x.Handle(encoded(request(key(1))), api.Address{}, 100, 5)
		b, _ := y.Handle(encoded(request(key(1))), api.Address{}, 100, 5)
		if !bytes.Equal(a.Reply, b.Reply) {
			t.Error("copy")
		}
	}
	z := y.Copy()
	y.Handle(encoded(request(key(1))), api.Address{}, 100, 5)
	z.SetDatabase(func() *database.Database { d, _ := database.New("R"); return d }())
	if y.Database().Len() != 2 {
		t.Error("shared")
	}
	a, _ := x.Handle(encoded(request(key(1))), api.Address{}, 100, 5)
	x.Handle(encoded(request(key(1))), api.Address{}, 100, 5)
	b, _ := y.Handle(encoded(request(key(1))), api.Address{}, 100, 5)
	if bytes.Equal(a.Reply, b.Reply) {
		t.Error("the generator does not change")
	}
}

func TestCodes(t *testing.T) {
	var numbers []int
	s := ""
	for c, n := range kdc.Codes() {
		numbers = append(numbers, c)
		s += n + " "
	}
	if !slices.Equal(numbers, []int{0, 1, 2, 6, 7, 9, 10, 11, 12, 13, 14, 18, 19, 23, 24, 25, 28, 31, 32, 33, 35, 36, 37, 38, 40, 41, 44, 50, 60, 68, 91}) {
		t.Error(numbers)
	}
	if s != "o-k client-expired service-expired client-unknown service-unknown no-key no-postdate never-valid policy bad-option no-profile client-revoked service-revoked key-expired pre-auth-failed pre-auth-needed path integrity ticket-expired ticket-early not-us bad-match skew address message modified key-version sum-type generic wrong-realm more-pre-auth " {
		t.Error(s)
	}
	codes := kdc.Codes()
	for range codes {
		break
	}
	for c := range codes {
		if c != 0 {
			t.Error(c)
		}
		break
	}
}
