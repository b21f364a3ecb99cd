package service_test

import (
	"bytes"
	"testing"

	"watchword/api"
	"watchword/apmessage"
	"watchword/authenticator"
	"watchword/keytab"
	"watchword/lifetime"
	"watchword/name"
	"watchword/pac"
	"watchword/profile"
	"watchword/random"
	"watchword/replay"
	"watchword/service"
	"watchword/ticket"
)

func principal(s string) api.Principal {
	p, e := name.Parse(s)
	if e != api.OK {
		panic(s)
	}
	return p
}

func fill(n int, b byte) []byte { return bytes.Repeat([]byte{b}, n) }

func key(b byte, version int) api.Key {
	return api.Key{Profile: 1, Version: version, Bytes: fill(16, b)}
}

func config() api.ServiceConfig {
	return api.ServiceConfig{Service: principal("s@R"), Skew: 5, Limit: 9}
}

func table() *keytab.Table {
	t := &keytab.Table{}
	t.Add(api.TableKey{Service: principal("s@R"), Key: key(1, 1)})
	return t
}

func start(t *testing.T, change func(*api.ServiceConfig)) *service.Service {
	t.Helper()
	c := config()
	if change != nil {
		change(&c)
	}
	s, e := service.New(c, table(), []byte("seed"))
	if e != api.OK {
		t.Fatal(e)
	}
	return s
}

// call is what a client sends.
type call struct {
	part    api.TicketPart
	service string
	key     api.Key
	auth    api.Authenticator
	session api.Key
	mutual  bool
}

func plain() call {
	return call{part: api.TicketPart{Flags: api.FlagPreAuth, Session: key(2, 0), Client: principal("u@R"), Transited: []string{"T"}, Times: api.Times{End: 100}}, service: "s@R", key: key(1, 1), auth: api.Authenticator{Client: principal("u@R"), Time: 50, Micro: 7, Seq: 3}, session: key(2, 0)}
}

func (c call) bytes() []byte {
	t, e := ticket.Seal(c.key, principal(c.service), c.part, fill(16, 3))
	s, f := authenticator.Seal(c.session, api.UsageService, c.auth, fill(16, 4))
	b, g := apmessage.EncodeRequest(api.ServiceRequest{Mutual: c.mutual, Ticket: t, Sealed: s})
	if e != api.OK || f != api.OK || g != api.OK {
		panic("request")
	}
	return b
}

func TestNew(t *testing.T) {
	for i, v := range []struct {
		change func(*api.ServiceConfig)
		ok     bool
	}{{func(*api.ServiceConfig) {}, true}, {func(c *api.ServiceConfig) { c.Skew, c.Limit = 0, 1 }, true}, {func(c *api.ServiceConfig) { c.Skew = 86400 }, true}, {func(c *api.ServiceConfig) { c.Service.Realm = "" }, false}, {func(c *api.ServiceConfig) { c.Skew = -1 }, false}, {func(c *api.ServiceConfig) { c.Skew = 86401 }, false}, {func(c *api.ServiceConfig) { c.Limit = 0 }, false}, {func(c *api.ServiceConfig) { c.Limit = 1 << 16 }, true}, {func(c *api.ServiceConfig) { c.Limit = 1<<16 + 1 }, false}, {func(c *api.ServiceConfig) { c.Realm = key(1, 1) }, true}, {func(c *api.ServiceConfig) { c.Realm = api.Key{Profile: 1} }, false}} {
		c := config()
		v.change(&c)
		if s, e := service.New(c, table(), []byte("s")); (e == api.OK) != v.ok || !v.ok && (s != nil || e != api.ErrArg) {
			t.Error(i, e)
		}
	}
	_, e := service.New(api.ServiceConfig{}, nil, nil)
	_, f := service.New(config(), table(), nil)
	if e != api.ErrNil || f != api.ErrArg {
		t.Error(e, f)
	}
	given := table()
	s, _ := service.New(config(), given, []byte("s"))
	given.Remove(principal("s@R"), 0)
	if len(s.Table().Lines()) != 1 || s.Config().Limit != 9 || s.SetTable(nil) != api.ErrNil || s.SetTable(given) != api.OK || len(s.Table().Lines()) != 0 {
		t.Error("table")
	}
	given.Add(api.TableKey{Service: principal("s@R"), Key: key(1, 1)})
	if len(s.Table().Lines()) != 0 {
		t.Error("shared")
	}
	for _, s := range []*service.Service{nil, {}} {
		a, b, e := s.Accept(nil, api.Address{}, -1)
		if e != api.ErrNil || a.Time != 0 || len(b)+len(s.Image()) != 0 || s.Restart(nil, -1) != api.ErrNil || s.SetTable(table()) != api.ErrNil || s.Table() != nil || s.Config().Limit != 0 || s.Copy() != nil {
			t.Error(e)
		}
		for range s.Replays() {
			t.Error("replays")
		}
	}
}

func TestAccept(t *testing.T) {
	s := start(t, nil)
	b := plain().bytes()
	a, reply, e := s.Accept(b, api.Address{}, 52)
	request, _ := apmessage.DecodeRequest(b)
	d := replay.Of(request.Sealed.Bytes)
	if e != api.OK || len(reply) != 0 || !name.Equal(a.Client, principal("u@R")) || a.Flags != api.FlagPreAuth || a.Times.End != 100 || len(a.Transited) != 1 || !profile.Equal(a.Session, key(2, 0)) || !profile.Equal(a.Stream, key(2, 0)) || a.Subkey.Profile != 0 || a.Time != 50 || a.Seq != 3 || a.Own != 0 || a.Signed || !bytes.Equal(a.Authenticator, d[:]) {
		t.Error(a, reply, e)
	}
	if _, _, e := s.Accept(b, api.Address{}, 52); e != api.ErrBusy {
		t.Error(e)
	}
	n := 0
	for time, x := range s.Replays() {
		if time != 50 || x != d {
			t.Error(time, x)
		}
		n++
	}
	if n != 1 {
		t.Error(n)
	}
	for range s.Replays() {
		break
	}
	invalid, bound, both := plain(), plain(), plain()
	invalid.part.Flags |= api.FlagInvalid
	bound.part.Addresses = []api.Address{{Kind: 20, Bytes: []byte("h")}}
	both.auth.Client, both.auth.Time = principal("v@R"), 99
	for i, v := range []struct {
		c    func() []byte
		from api.Address
		now  int
		want api.Errno
	}{
		{func() []byte { return nil }, api.Address{}, 52, api.ErrFormat}, {func() []byte { return append(b, 0) }, api.Address{}, 52, api.ErrFormat}, {func() []byte { c := plain(); c.service = "t@R"; c.key = key(9, 9); return c.bytes() }, api.Address{}, 52, api.ErrServiceName}, {func() []byte { c := plain(); c.key = key(1, 2); return c.bytes() }, api.Address{}, 52, api.ErrNone}, {func() []byte { c := plain(); c.key = key(9, 1); return c.bytes() }, api.Address{}, 52, api.ErrCheck}, {func() []byte { c := plain(); c.session = key(9, 0); return c.bytes() }, api.Address{}, 52, api.ErrCheck}, {func() []byte { c := plain(); c.session = api.Key{Profile: 2, Bytes: fill(32, 1)}; return c.bytes() }, api.Address{}, 52, api.ErrNone},
		{func() []byte { c := plain(); c.auth.Client = principal("v@R"); return c.bytes() }, api.Address{}, 52, api.ErrAuthClient}, {both.bytes, api.Address{}, 52, api.ErrAuthClient}, {plain().bytes, api.Address{}, 56, api.ErrAuthTime}, {func() []byte { c := plain(); c.auth.Time = 106; return c.bytes() }, api.Address{}, 106, lifetime.ErrExpired}, {invalid.bytes, api.Address{}, 52, api.ErrTicketInvalid}, {bound.bytes, api.Address{}, 52, api.ErrTicketAddress}, {bound.bytes, api.Address{Kind: 20, Bytes: []byte("h")}, 52, api.OK}, {plain().bytes, api.Address{}, -1, api.ErrArg}, {plain().bytes, api.Address{}, 1<<40 + 1, api.ErrArg},
	} {
		s := start(t, nil)
		before := s.Image()
		a, reply, e := s.Accept(v.c(), v.from, v.now)
		if e != v.want || e != api.OK && (a.Time != 0 || len(reply) != 0 || !bytes.Equal(before, s.Image())) {
			t.Error(i, e, v.want)
		}
	}
}

func TestData(t *testing.T) {
	signed := func(p api.Pac, k, realm api.Key) call {
		b, _ := pac.Sign(p, k, realm)
		c := plain()
		c.part.Data = []api.Data{{Kind: 3}, {Kind: 128, Bytes: b}}
		return c
	}
	good := api.Pac{Client: principal("u@R"), User: 8}
	for i, v := range []struct {
		c     call
		realm api.Key
		want  api.Errno
	}{{signed(good, key(1, 1), key(7, 1)), key(7, 1), api.OK}, {signed(good, key(1, 1), key(7, 1)), api.Key{}, api.OK}, {signed(good, key(1, 1), key(8, 1)), key(7, 1), api.ErrPacRealm}, {signed(good, key(2, 1), key(7, 1)), api.Key{}, api.ErrPacService}, {signed(api.Pac{Client: principal("v@R")}, key(1, 1), key(7, 1)), api.Key{}, api.ErrPacClient}, {signed(api.Pac{Client: principal("u@R"), Auth: 1}, key(1, 1), key(7, 1)), api.Key{}, api.ErrPacClient}} {
		s := start(t, func(c *api.ServiceConfig) { c.Realm = v.realm })
		a, _, e := s.Accept(v.c.bytes(), api.Address{}, 52)
		if e != v.want || a.Signed != (e == api.OK) || e == api.OK && !pac.Equal(a.Pac, good) {
			t.Error(i, e)
		}
	}
	c := plain()
	c.part.Data = []api.Data{{Kind: 128, Bytes: []byte{1}}}
	if _, _, e := start(t, nil).Accept(c.bytes(), api.Address{}, 52); e != api.ErrFormat {
		t.Error(e)
	}
}

func TestReply(t *testing.T) {
	subkey := api.Key{Profile: 2, Bytes: fill(32, 6)}
	for _, own := range []bool{true, false} {
		for _, theirs := range []bool{true, false} {
			s := start(t, func(c *api.ServiceConfig) { c.Subkeys = own })
			c := plain()
			c.mutual = true
			if theirs {
				c.auth.Subkey = subkey
			}
			a, b, e := s.Accept(c.bytes(), api.Address{}, 52)
			r, f := apmessage.OpenReply(key(2, 0), b)
			g, _ := random.New([]byte("seed"))
			seq, _ := g.Number(api.MaxSeq)
			want := key(2, 0)
			if theirs {
				want = subkey
			}
			if own {
				want, _ = g.Key(1, 16)
			}
			confounder, _ := g.Bytes(16)
			if e != api.OK || f != api.OK || r.Time != 50 || r.Micro != 7 || r.Seq != seq || a.Own != seq || (r.Subkey.Profile != 0) != own || !profile.Equal(a.Stream, want) || (a.Subkey.Profile != 0) != theirs {
				t.Error(own, theirs, a, r, e, f)
			}
			if x, _ := apmessage.SealReply(key(2, 0), r, confounder); !bytes.Equal(x, b) {
				t.Error("random bytes")
			}
			c.mutual, c.auth.Micro = false, 8
			if a, b, e := s.Accept(c.bytes(), api.Address{}, 52); e != api.OK || len(b) != 0 || a.Own != 0 || !theirs && !profile.Equal(a.Stream, key(2, 0)) {
				t.Error(a, e)
			}
		}
	}
}

func TestRestart(t *testing.T) {
	s := start(t, nil)
	b := plain().bytes()
	s.Accept(b, api.Address{}, 52)
	image := s.Image()
	c := s.Copy()
	if s.Restart(nil, 52) != api.OK {
		t.Error("restart")
	}
	if _, _, e := s.Accept(b, api.Address{}, 52); e != api.ErrState {
		t.Error(e)
	}
	if c.Restart(image, 52) != api.OK || !bytes.Equal(c.Image(), image) {
		t.Error("image")
	}
	if _, _, e := c.Accept(b, api.Address{}, 52); e != api.ErrBusy {
		t.Error(e)
	}
	other, _ := replay.New(5, 8)
	skewed, _ := replay.New(6, 9)
	for i, v := range []struct {
		image []byte
		now   int
		want  api.Errno
	}{{image[:39], 52, api.ErrShort}, {append(image, 0), 52, api.ErrLong}, {other.Image(), 52, api.ErrCheck}, {skewed.Image(), 52, api.ErrCheck}, {nil, -1, api.ErrArg}, {image, 1<<40 + 1, api.ErrArg}, {append(make([]byte, 8), image[8:]...), 52, api.ErrFormat}} {
		if e := c.Restart(v.image, v.now); e != v.want || !bytes.Equal(c.Image(), image) {
			t.Error(i, e)
		}
	}
	d := start(t, nil)
	x := d.Copy()
	d.Accept(b, api.Address{}, 52)
	if _, _, e := x.Accept(b, api.Address{}, 52); e != api.OK {
		t.Error(e)
	}
}
