package ticket_test

import (
	"bytes"
	"slices"
	"testing"

	"watchword/api"
	"watchword/der"
	"watchword/lifetime"
	"watchword/name"
	"watchword/profile"
	"watchword/ticket"
)

func principal(s string) api.Principal {
	p, e := name.Parse(s)
	if e != api.OK {
		panic(s)
	}
	return p
}

func fill(n int, b byte) []byte { return bytes.Repeat([]byte{b}, n) }

func key(b byte, version int) api.Key {
	return api.Key{Profile: 1, Version: version, Bytes: fill(16, b)}
}

// small returns the ticket part of the chapter's examples.
func small() api.TicketPart {
	return api.TicketPart{Flags: api.FlagInitial, Session: key(1, 0), Client: principal("a@R"), Times: api.Times{Auth: 10, Start: 10, End: 100}}
}

// full returns a ticket part in which nothing is zero.
func full() api.TicketPart {
	p := small()
	p.Flags = 0xfff
	p.Session = api.Key{Profile: 2, Bytes: fill(32, 7)}
	p.Transited = []string{"A", "B.C"}
	p.Times.Renew = 200
	p.Addresses = []api.Address{{Kind: 2, Bytes: []byte{10, 0, 0, 1}}, {Kind: 20, Bytes: []byte("h")}}
	p.Data = []api.Data{{Kind: 0}, {Kind: 1<<31 - 1, Bytes: fill(4096, 5)}}
	return p
}

// parts returns changes of a valid part that make it a different one, and whether it stays valid.
func parts() map[string]struct {
	change func(*api.TicketPart)
	valid  bool
} {
	type change = struct {
		change func(*api.TicketPart)
		valid  bool
	}
	return map[string]change{
		"flags":      {func(p *api.TicketPart) { p.Flags ^= 1 }, true},
		"option":     {func(p *api.TicketPart) { p.Flags |= 1 << 16 }, false},
		"session":    {func(p *api.TicketPart) { p.Session = key(9, 0) }, true},
		"version":    {func(p *api.TicketPart) { p.Session.Version = 1 }, false},
		"profile":    {func(p *api.TicketPart) { p.Session.Profile = 3 }, false},
		"client":     {func(p *api.TicketPart) { p.Client = principal("b@R") }, true},
		"no client":  {func(p *api.TicketPart) { p.Client = api.Principal{} }, false},
		"transited":  {func(p *api.TicketPart) { p.Transited = []string{"Z"} }, true},
		"transits":   {func(p *api.TicketPart) { p.Transited = slices.Repeat([]string{"Z"}, 16) }, true},
		"too many":   {func(p *api.TicketPart) { p.Transited = slices.Repeat([]string{"Z"}, 17) }, false},
		"realm":      {func(p *api.TicketPart) { p.Transited = []string{"Z", "z"} }, false},
		"auth":       {func(p *api.TicketPart) { p.Times.Auth = 9 }, true},
		"start":      {func(p *api.TicketPart) { p.Times.Start = 11 }, true},
		"end":        {func(p *api.TicketPart) { p.Times.End = 101 }, true},
		"renew":      {func(p *api.TicketPart) { p.Times.Renew = 201 }, true},
		"times":      {func(p *api.TicketPart) { p.Times.Start = 5 }, false},
		"addresses":  {func(p *api.TicketPart) { p.Addresses = []api.Address{{Kind: 20, Bytes: []byte("x")}} }, true},
		"address":    {func(p *api.TicketPart) { p.Addresses = []api.Address{{Kind: 20}} }, false},
		"data":       {func(p *api.TicketPart) { p.Data = []api.Data{{Kind: 3}} }, true},
		"kind":       {func(p *api.TicketPart) { p.Data = []api.Data{{Kind: 1 << 31}} }, false},
		"minus":      {func(p *api.TicketPart) { p.Data = []api.Data{{Kind: -1}} }, false},
		"long":       {func(p *api.TicketPart) { p.Data = []api.Data{{Bytes: fill(4097, 1)}} }, false},
		"data items": {func(p *api.TicketPart) { p.Data = make([]api.Data, 17) }, false},
	}
}

func TestParts(t *testing.T) {
	for _, base := range []func() api.TicketPart{small, full} {
		if !ticket.ValidPart(base()) || !ticket.EqualPart(base(), base()) {
			t.Error("base")
		}
		for what, x := range parts() {
			p := base()
			x.change(&p)
			c := ticket.CopyPart(p)
			if ticket.ValidPart(p) != x.valid || ticket.EqualPart(p, base()) || ticket.EqualPart(base(), p) || !ticket.EqualPart(p, c) {
				t.Error(what)
			}
			b, e := ticket.EncodePart(p)
			q, f := ticket.DecodePart(b)
			if x.valid != (e == api.OK) || !x.valid && (e != api.ErrArg || len(b) != 0) || x.valid && (f != api.OK || !ticket.EqualPart(p, q)) {
				t.Error(what, e, f)
			}
			_, g := ticket.Seal(key(2, 3), principal("s@R"), p, fill(16, 3))
			if h := ticket.Check(p, api.Address{}, 50, 5); !x.valid && (h != api.ErrArg || g != api.ErrArg) {
				t.Error(what, h, g)
			}
		}
	}
	a := full()
	c := ticket.CopyPart(a)
	c.Session.Bytes[0], c.Client.Parts[0], c.Transited[0], c.Addresses[0].Bytes[0], c.Data[1].Bytes[0] = 99, "x", "X", 99, 99
	if !ticket.EqualPart(a, full()) {
		t.Error("shared")
	}
}

func TestTickets(t *testing.T) {
	base := api.Ticket{Service: principal("s/t@R"), Sealed: api.Sealed{Profile: 1, Version: 3, Bytes: []byte{1, 2}}}
	b, e := ticket.Encode(base)
	service, _ := name.Encode(base.Service)
	want := der.Application(1, der.Sequence(der.Tagged(0, der.Integer(5)), der.Tagged(1, service), der.Tagged(2, der.Sealed(base.Sealed))))
	if !bytes.Equal(b, want) || e != api.OK {
		t.Error(b, e)
	}
	c := ticket.Copy(base)
	if !ticket.Equal(base, c) || !ticket.Valid(base) {
		t.Error(c)
	}
	c.Service.Parts[0], c.Sealed.Bytes[0] = "x", 9
	if ticket.Equal(base, c) || base.Service.Parts[0] != "s" || base.Sealed.Bytes[0] != 1 {
		t.Error("shared")
	}
	for i, x := range []struct {
		t     api.Ticket
		valid bool
	}{
		{api.Ticket{Service: principal("s@R"), Sealed: base.Sealed}, true}, {api.Ticket{Service: base.Service, Sealed: api.Sealed{Profile: 2, Version: 3, Bytes: []byte{1, 2}}}, true}, {api.Ticket{Service: base.Service, Sealed: api.Sealed{Profile: 1, Version: 65535, Bytes: []byte{1, 2}}}, true}, {api.Ticket{Service: base.Service, Sealed: api.Sealed{Profile: 1, Version: 3}}, true}, {api.Ticket{Service: base.Service, Sealed: api.Sealed{Profile: 1, Version: 3, Bytes: fill(65536, 1)}}, true},
		{api.Ticket{}, false}, {api.Ticket{Sealed: base.Sealed}, false}, {api.Ticket{Service: base.Service, Sealed: api.Sealed{Profile: 3, Version: 3, Bytes: []byte{1, 2}}}, false}, {api.Ticket{Service: base.Service, Sealed: api.Sealed{Profile: 1, Version: -1, Bytes: []byte{1, 2}}}, false}, {api.Ticket{Service: base.Service, Sealed: api.Sealed{Profile: 1, Version: 65536, Bytes: []byte{1, 2}}}, false}, {api.Ticket{Service: base.Service, Sealed: api.Sealed{Profile: 1, Version: 3, Bytes: fill(65537, 1)}}, false},
	} {
		b, e := ticket.Encode(x.t)
		d, f := ticket.Decode(b)
		_, g := ticket.Open(key(2, 3), x.t)
		if ticket.Valid(x.t) != x.valid || ticket.Equal(x.t, base) || x.valid != (e == api.OK) || x.valid && (f != api.OK || !ticket.Equal(d, x.t)) || !x.valid && (e != api.ErrArg || len(b) != 0 || g != api.ErrArg) {
			t.Error(i, e, f, g)
		}
	}
	r := der.New(append(bytes.Clone(want), 7))
	d, e := ticket.Read(r)
	if !ticket.Equal(d, base) || e != api.OK || r.Left() != 1 {
		t.Error(d, e)
	}
	for _, r := range []*der.Reader{nil, {}} {
		if d, e := ticket.Read(r); e != api.ErrNil || d.Sealed.Profile != 0 {
			t.Error(e)
		}
	}
}

// wrong returns encodings that differ from a right one in one place.
func wrong(b []byte) [][]byte {
	l := [][]byte{nil, append(bytes.Clone(b), 0)}
	for i := range b {
		l = append(l, b[:i])
	}
	return l
}

func TestWrongEncodings(t *testing.T) {
	service, _ := name.Encode(principal("s@R"))
	sealed := der.Sealed(api.Sealed{Profile: 1})
	five := der.Tagged(0, der.Integer(5))
	app := func(n int, l ...[]byte) []byte { return der.Application(n, der.Sequence(l...)) }
	good := app(1, five, der.Tagged(1, service), der.Tagged(2, sealed))
	l := append(wrong(good), app(2, five, der.Tagged(1, service), der.Tagged(2, sealed)), app(1, der.Tagged(0, der.Integer(4)), der.Tagged(1, service), der.Tagged(2, sealed)), app(1, five, der.Tagged(2, service), der.Tagged(3, sealed)), app(1, five, der.Tagged(1, service), der.Tagged(2, sealed), der.Bool(true)), app(1, five, der.Tagged(1, service)), app(1, five, der.Tagged(1, append(bytes.Clone(service), 1, 1, 0)), der.Tagged(2, sealed)), app(1, five, der.Tagged(1, service), der.Tagged(2, der.Sealed(api.Sealed{Profile: 3}))), der.Application(1, append(der.Sequence(five, der.Tagged(1, service), der.Tagged(2, sealed)), 1, 1, 0)), der.Application(1, append(der.Sequence(five, der.Tagged(1, service), der.Tagged(2, sealed)), 0)), der.Application(1, five))
	for i, b := range l {
		r := der.New(b)
		x, e := ticket.Read(r)
		y, f := ticket.Decode(b)
		if i == 1 {
			e, x = api.ErrFormat, y
			r = der.New(b)
		}
		if e != api.ErrFormat || f != api.ErrFormat || r.Left() != len(b) || x.Sealed.Profile+y.Sealed.Profile != 0 {
			t.Error(i, b, e, f)
		}
	}
	b, _ := ticket.EncodePart(small())
	for i, x := range wrong(b) {
		if p, e := ticket.DecodePart(x); e != api.ErrFormat || p.Flags != 0 {
			t.Error(i, e)
		}
	}
	client, _ := name.Encode(principal("a@R"))
	elements := [][]byte{der.Tagged(0, der.Bits(1)), der.Tagged(1, der.Key(key(1, 0))), der.Tagged(2, client), der.Tagged(3, der.Sequence()), der.Tagged(4, der.Time(1)), der.Tagged(5, der.Time(1)), der.Tagged(6, der.Time(2)), der.Tagged(7, der.Time(2)), der.Tagged(8, der.Data([]api.Data{{Kind: 20, Bytes: []byte("a")}})), der.Tagged(9, der.Data([]api.Data{{}}))}
	if _, e := ticket.DecodePart(app(3, elements...)); e != api.OK {
		t.Error(e)
	}
	for i := range elements {
		without := slices.Delete(slices.Clone(elements), i, i+1)
		if _, e := ticket.DecodePart(app(3, without...)); (e == api.OK) != (i >= 7) {
			t.Error(i, e)
		}
	}
	for i, x := range [][]byte{der.Tagged(7, der.Time(0)), der.Tagged(8, der.Data(nil)), der.Tagged(9, der.Data(nil))} {
		changed := slices.Clone(elements)
		changed[7+i] = x
		if _, e := ticket.DecodePart(app(3, changed...)); e != api.ErrFormat {
			t.Error(i, e)
		}
	}
	if _, e := ticket.DecodePart(der.Application(3, append(der.Sequence(elements...), 0))); e != api.ErrFormat {
		t.Error(e)
	}
	if _, e := ticket.DecodePart(app(4, elements...)); e != api.ErrFormat {
		t.Error(e)
	}
}

func TestSealOpen(t *testing.T) {
	k, s, c := key(2, 3), principal("s@R"), fill(16, 3)
	b, _ := ticket.EncodePart(small())
	if len(b) != 97 || b[0] != 0x63 {
		t.Error(len(b), b[0])
	}
	for _, p := range []api.TicketPart{small(), full()} {
		x, e := ticket.Seal(k, s, p, c)
		q, f := ticket.Open(k, x)
		plain, g := profile.Open(k, api.UsageTicket, x.Sealed)
		b, _ := ticket.EncodePart(p)
		if e != api.OK || f != api.OK || g != api.OK || !ticket.EqualPart(p, q) || !name.Equal(x.Service, s) || x.Sealed.Version != 3 || !bytes.Equal(plain, b) {
			t.Error(e, f, g)
		}
		if q, e := ticket.Open(key(4, 3), x); e != api.ErrCheck || q.Flags != 0 {
			t.Error(e)
		}
		if _, e := ticket.Open(key(2, 4), x); e != api.ErrNone {
			t.Error(e)
		}
		if _, e := ticket.Open(api.Key{}, x); e != api.ErrArg {
			t.Error(e)
		}
	}
	for i, x := range []struct {
		k api.Key
		s api.Principal
		c []byte
	}{{k, s, c[:15]}, {k, api.Principal{}, c}, {api.Key{}, s, c}, {k, s, nil}} {
		if y, e := ticket.Seal(x.k, x.s, small(), x.c); e != api.ErrArg || y.Sealed.Profile != 0 {
			t.Error(i, e)
		}
	}
	long := small()
	long.Data = slices.Repeat([]api.Data{{Bytes: fill(4096, 1)}}, 16)
	if x, e := ticket.Seal(k, s, long, c); e != api.ErrArg || len(x.Sealed.Bytes) != 0 {
		t.Error(e)
	}
	junk, _ := profile.Seal(k, api.UsageTicket, c, []byte("junk"))
	if p, e := ticket.Open(k, api.Ticket{Service: s, Sealed: junk}); e != api.ErrFormat || p.Flags != 0 {
		t.Error(e)
	}
	junk.Bytes = junk.Bytes[:31]
	if _, e := ticket.Open(k, api.Ticket{Service: s, Sealed: junk}); e != api.ErrShort {
		t.Error(e)
	}
}

func TestCheck(t *testing.T) {
	here, there := api.Address{Kind: 2, Bytes: []byte{10, 0, 0, 1}}, api.Address{Kind: 2, Bytes: []byte{10, 0, 0, 2}}
	invalid, bound := small(), small()
	invalid.Flags |= api.FlagInvalid
	bound.Addresses = []api.Address{here}
	both := bound
	both.Flags |= api.FlagInvalid
	for i, x := range []struct {
		p         api.TicketPart
		from      api.Address
		now, skew int
		want      api.Errno
	}{
		{small(), api.Address{}, 100, 5, api.OK}, {small(), there, 105, 5, api.OK}, {small(), there, 106, 5, lifetime.ErrExpired}, {small(), there, 5, 5, api.OK}, {small(), there, 4, 5, lifetime.ErrEarly}, {invalid, there, 106, 5, api.ErrTicketInvalid}, {invalid, there, 50, 5, api.ErrTicketInvalid},
		{bound, here, 50, 0, api.OK}, {bound, there, 50, 0, api.ErrTicketAddress}, {bound, api.Address{}, 50, 0, api.ErrTicketAddress}, {bound, there, 101, 0, lifetime.ErrExpired}, {both, there, 101, 0, api.ErrTicketInvalid},
		{both, there, -1, 0, api.ErrArg}, {both, there, 1 << 41, 0, api.ErrArg}, {both, there, 50, -1, api.ErrArg}, {both, there, 50, 86401, api.ErrArg}, {api.TicketPart{}, there, 50, 5, api.ErrArg},
	} {
		if e := ticket.Check(x.p, x.from, x.now, x.skew); e != x.want {
			t.Error(i, e)
		}
	}
}
