package cache_test

import (
	"bytes"
	"slices"
	"strconv"
	"testing"

	"watchword/address"
	"watchword/api"
	"watchword/cache"
	"watchword/der"
	"watchword/flags"
	"watchword/lifetime"
	"watchword/name"
	"watchword/ticket"
)

func principal(s string) api.Principal {
	p, e := name.Parse(s)
	if e != api.OK {
		panic(s)
	}
	return p
}

// credential returns a credential of u@R.
func credential(service string, f api.Flags, times api.Times) api.Credential {
	return api.Credential{Client: principal("u@R"), Service: principal(service), Session: api.Key{Profile: 1, Bytes: bytes.Repeat([]byte{1}, 16)}, Flags: f, Times: times, Addresses: []api.Address{{Kind: 20, Bytes: []byte("h")}},
		Ticket: api.Ticket{Service: principal(service), Sealed: api.Sealed{Profile: 1, Version: 2, Bytes: []byte{5}}}}
}

func a() api.Credential {
	return credential("krbtgt/R@R", api.FlagRenewable, api.Times{End: 100, Renew: 200})
}

func b() api.Credential { return credential("s@R", 0, api.Times{Start: 50, End: 100}) }

func u() api.Principal { return principal("u@R") }

func filled(t *testing.T, l ...api.Credential) *cache.Cache {
	t.Helper()
	c := &cache.Cache{}
	for _, x := range l {
		if e := c.Store(x); e != api.OK {
			t.Fatal(e)
		}
	}
	return c
}

func TestValues(t *testing.T) {
	if !cache.Valid(a()) || !cache.Equal(a(), a()) || cache.Equal(a(), b()) {
		t.Error("a")
	}
	for i, v := range []struct {
		change func(*api.Credential)
		valid  bool
	}{
		{func(c *api.Credential) { c.Client = principal("v@R") }, true}, {func(c *api.Credential) { c.Client.Realm = "" }, false}, {func(c *api.Credential) { c.Service = principal("v@R") }, true}, {func(c *api.Credential) { c.Service.Parts = nil }, false}, {func(c *api.Credential) { c.Session = api.Key{Profile: 2, Bytes: make([]byte, 32)} }, true}, {func(c *api.Credential) { c.Session.Version = 1 }, false}, {func(c *api.Credential) { c.Flags = 1 }, true}, {func(c *api.Credential) { c.Flags = 1 << 16 }, false}, {func(c *api.Credential) { c.Times.End++ }, true}, {func(c *api.Credential) { c.Times.End = 0 }, false}, {func(c *api.Credential) { c.Addresses = nil }, true}, {func(c *api.Credential) { c.Addresses = make([]api.Address, 1) }, false}, {func(c *api.Credential) { c.Ticket.Sealed.Version = 3 }, true}, {func(c *api.Credential) { c.Ticket = api.Ticket{} }, false},
	} {
		x := a()
		v.change(&x)
		c := &cache.Cache{}
		e := c.Store(x)
		if cache.Valid(x) != v.valid || cache.Equal(x, a()) || (e == api.OK) != v.valid || !v.valid && e != api.ErrArg {
			t.Error(i, e)
		}
		if v.valid {
			d, f := cache.Decode(c.Encode())
			y, g := c.Get(x.Client, x.Service)
			if f != api.OK || g != api.OK || !cache.Equal(x, y) || !bytes.Equal(d.Encode(), c.Encode()) {
				t.Error(i, f, g)
			}
		}
	}
	x := a()
	c := filled(t, x)
	x.Client.Parts[0], x.Session.Bytes[0], x.Addresses[0].Bytes[0], x.Ticket.Sealed.Bytes[0] = "z", 9, 9, 9
	y, _ := c.Get(u(), principal("krbtgt/R@R"))
	y.Session.Bytes[0] = 7
	if z, _ := c.Get(u(), principal("krbtgt/R@R")); !cache.Equal(z, a()) {
		t.Error("shared")
	}
}

func TestStoreRemove(t *testing.T) {
	c := filled(t, b(), a())
	changed := b()
	changed.Flags = api.FlagProxiable
	if c.Store(changed) != api.OK {
		t.Error("store")
	}
	if x, e := c.Get(u(), principal("s@R")); !cache.Equal(x, changed) || e != api.OK {
		t.Error(e)
	}
	_, e1 := c.Get(u(), principal("x@R"))
	_, e2 := c.Get(u(), api.Principal{})
	_, e3 := c.Get(api.Principal{}, u())
	if e1 != api.ErrNone || e2 != api.ErrArg || e3 != api.ErrArg || c.Remove(u(), principal("x@R")) != api.ErrNone || c.Remove(api.Principal{}, u()) != api.ErrArg || c.Remove(u(), principal("s@R")) != api.OK || c.Remove(u(), principal("s@R")) != api.ErrNone {
		t.Error(e1, e2, e3)
	}
	for i := range cache.MaxCredentials - 1 {
		if e := c.Store(credential("n"+strconv.Itoa(i)+"@R", 0, api.Times{End: 5})); e != api.OK {
			t.Fatal(i, e)
		}
	}
	if c.Store(b()) != api.ErrFull || c.Store(a()) != api.OK {
		t.Error("full")
	}
	if d, e := cache.Decode(c.Encode()); e != api.OK || !bytes.Equal(d.Encode(), c.Encode()) {
		t.Error(e)
	}
}

func TestFind(t *testing.T) {
	c := filled(t, a(), b(), credential("i@R", api.FlagInvalid|api.FlagProxiable, api.Times{End: 100}))
	for i, v := range []struct {
		service            string
		now, skew, seconds int
		all                api.Flags
		want               api.Errno
	}{{"s@R", 40, 5, 0, 0, lifetime.ErrEarly}, {"s@R", 45, 5, 0, 0, api.OK}, {"s@R", 106, 5, 0, 0, lifetime.ErrExpired}, {"s@R", 60, 5, 0, api.FlagRenewable, api.ErrState}, {"s@R", 60, 5, 40, 0, api.OK}, {"s@R", 60, 5, 41, 0, api.ErrState}, {"s@R", 60, 5, 1<<63 - 1, 0, api.ErrState}, {"s@R", 101, 5, 0, 0, api.ErrState}, {"i@R", 60, 5, 0, 0, api.ErrState}, {"i@R", 106, 5, 0, 0, lifetime.ErrExpired}, {"krbtgt/R@R", 60, 5, 0, api.FlagRenewable, api.OK}, {"x@R", 60, 5, 0, 0, api.ErrNone}, {"x@R", -1, 5, 0, 0, api.ErrArg}, {"x@R", 60, -1, 0, 0, api.ErrArg}, {"x@R", 60, 86401, 0, 0, api.ErrArg}, {"x@R", 60, 5, -1, 0, api.ErrArg}, {"x@R", 60, 5, 0, api.OptionRenew, api.ErrArg}} {
		x, e := c.Find(u(), principal(v.service), v.now, v.skew, v.seconds, v.all)
		if e != v.want || e == api.OK && !name.Equal(x.Service, principal(v.service)) || e != api.OK && len(x.Service.Parts) != 0 {
			t.Error(i, e)
		}
	}
	if _, e := c.Find(api.Principal{}, u(), 60, 5, 0, 0); e != api.ErrArg {
		t.Error(e)
	}
	other := credential("krbtgt/R@R", 0, api.Times{End: 500})
	other.Client = principal("v@R")
	g := filled(t, a(), b(), credential("krbtgt/X@R", api.FlagInvalid, api.Times{End: 100}), credential("krbtgt/X@S", 0, api.Times{Start: 50, End: 500}), other)
	for i, v := range []struct {
		realm     string
		now, skew int
		want      api.Errno
		service   string
	}{{"R", 60, 0, api.OK, "krbtgt/R@R"}, {"R", 101, 0, lifetime.ErrExpired, ""}, {"X", 60, 0, api.OK, "krbtgt/X@S"}, {"X", 40, 0, api.ErrState, ""}, {"X", 501, 0, lifetime.ErrExpired, ""}, {"Y", 60, 0, api.ErrNone, ""}, {"y", 60, 0, api.ErrArg, ""}, {"R", -1, 0, api.ErrArg, ""}, {"R", 60, -1, api.ErrArg, ""}} {
		x, e := g.Granting(u(), v.realm, v.now, v.skew)
		if e != v.want || e == api.OK && !name.Equal(x.Service, principal(v.service)) {
			t.Error(i, e)
		}
	}
	if _, e := g.Granting(api.Principal{}, "R", 60, 0); e != api.ErrArg {
		t.Error(e)
	}
}

func TestExpireRenewable(t *testing.T) {
	c := filled(t, a(), b(), credential("i@R", api.FlagInvalid|api.FlagRenewable, api.Times{End: 100, Renew: 200}), credential("p@R", 0, api.Times{End: 100, Renew: 200}), credential("z@R", 0, api.Times{Start: 900, End: 901}))
	for _, v := range []struct{ now, skew, seconds, want int }{{60, 0, 41, 1}, {60, 0, 40, 0}, {103, 2, 41, 0}, {102, 2, 41, 1}, {-1, 0, 41, 0}, {60, -1, 41, 0}, {60, 0, -1, 0}} {
		renewable := c.Renewable(v.now, v.skew, v.seconds)
		for range 2 {
			n := 0
			for x := range renewable {
				n++
				x.Session.Bytes[0] = 99
				if !name.Equal(x.Service, principal("krbtgt/R@R")) {
					t.Error(x.Service)
				}
			}
			if n != v.want {
				t.Error(v, n)
			}
		}
	}
	for range c.Renewable(60, 0, 41) {
		break
	}
	two := filled(t, credential("z@R", api.FlagRenewable, api.Times{End: 100, Renew: 200}), a())
	order := ""
	for x := range two.Renewable(60, 0, 41) {
		order += x.Service.Parts[0] + " "
	}
	if order != "krbtgt z " {
		t.Error(order)
	}
	all := c.Credentials()
	n, e := c.Expire(106, 5)
	m, f := c.Expire(106, 5)
	_, g := c.Get(u(), principal("s@R"))
	if n != 4 || m != 0 || e != api.OK || f != api.OK || g != api.ErrNone {
		t.Error(n, m, e, f, g)
	}
	n, e = c.Expire(-1, 0)
	m, f = c.Expire(1, -1)
	if e != api.ErrArg || f != api.ErrArg || n+m != 0 {
		t.Error(e, f)
	}
	for range 2 {
		s := ""
		for i, x := range all {
			s += strconv.Itoa(i) + x.Service.Parts[0] + " "
			x.Service.Parts[0] = "changed"
		}
		if s != "0i 1krbtgt 2p 3s 4z " {
			t.Error(s)
		}
	}
	for range all {
		break
	}
}

func TestEncoding(t *testing.T) {
	c := filled(t, b(), a())
	element := func(x api.Credential) []byte {
		client, _ := name.Encode(x.Client)
		service, _ := name.Encode(x.Service)
		f, _ := flags.Encode(x.Flags)
		times, _ := lifetime.Encode(x.Times)
		l, _ := address.Encode(x.Addresses)
		k, _ := ticket.Encode(x.Ticket)
		return der.Sequence(client, service, der.Key(x.Session), f, times, l, k)
	}
	good := der.Application(24, der.Sequence(element(a()), element(b())))
	if !bytes.Equal(c.Encode(), good) {
		t.Error(c.Encode())
	}
	if e := (&cache.Cache{}).Encode(); !bytes.Equal(e, []byte{0x78, 2, 0x30, 0}) {
		t.Error(e)
	}
	bad := [][]byte{nil, append(bytes.Clone(good), 0), good[:len(good)-1], der.Application(23, der.Sequence()), der.Application(24, append(der.Sequence(), 1, 1, 0)), der.Application(24, der.Sequence(element(b()), element(a()))), der.Application(24, der.Sequence(element(a()), element(a()))), der.Application(24, der.Sequence(der.Integer(1))), der.Application(24, der.Sequence(append(bytes.Clone(element(a())[:1]), append([]byte{element(a())[1] - 3}, element(a())[2:len(element(a()))-3]...)...)))}
	invalid := a()
	invalid.Session.Version = 1
	bad = append(bad, der.Application(24, der.Sequence(element(invalid))))
	var many [][]byte
	for i := range 129 {
		many = append(many, element(credential("n"+strconv.Itoa(1000+i)+"@R", 0, api.Times{End: 5})))
	}
	if _, e := cache.Decode(der.Application(24, der.Sequence(many[:128]...))); e != api.OK {
		t.Error(e)
	}
	bad = append(bad, der.Application(24, der.Sequence(many...)))
	for i, x := range bad {
		if d, e := cache.Decode(x); d != nil || e != api.ErrFormat {
			t.Error(i, e)
		}
	}
	d := c.Copy()
	d.Remove(u(), principal("s@R"))
	if len(slices.Collect(func(yield func(int) bool) {
		for i := range c.Credentials() {
			if !yield(i) {
				return
			}
		}
	})) != 2 {
		t.Error("copy")
	}
}

func TestNil(t *testing.T) {
	var c *cache.Cache
	_, e1 := c.Get(u(), u())
	_, e2 := c.Find(api.Principal{}, u(), -1, 0, 0, 0)
	_, e3 := c.Granting(api.Principal{}, "", -1, 0)
	_, e4 := c.Expire(-1, 0)
	for i, e := range []api.Errno{e1, e2, e3, e4, c.Store(api.Credential{}), c.Remove(u(), u())} {
		if e != api.ErrNil {
			t.Error(i, e)
		}
	}
	for range c.Credentials() {
		t.Error("credentials")
	}
	for range c.Renewable(0, 0, 5) {
		t.Error("renewable")
	}
	if c.Copy() != nil || len(c.Encode()) != 0 {
		t.Error("copy")
	}
}
