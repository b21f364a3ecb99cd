package flags_test

import (
	"bytes"
	"testing"

	"watchword/api"
	"watchword/der"
	"watchword/flags"
)

var all = map[int]string{0: "forwardable", 1: "forwarded", 2: "proxiable", 3: "proxy", 4: "may-postdate", 5: "postdated", 6: "invalid", 7: "renewable", 8: "initial", 9: "pre-auth", 10: "transited", 11: "delegate", 16: "renew", 17: "validate", 18: "canonical", 19: "constrained", 20: "renewable-ok"}

func TestNames(t *testing.T) {
	for bit := range 32 {
		f := api.Flags(1) << bit
		name, ok := all[bit]
		s, e := flags.Text(f)
		b, g := flags.Encode(f)
		if flags.Ticket(f) != (bit < 12) || flags.Options(f) != (ok && bit != 6 && (bit < 8 || bit > 15)) {
			t.Error(bit)
		}
		if !ok {
			r := der.New(der.Bits(uint32(f)))
			_, h := flags.Read(r)
			_, i := flags.Decode(der.Bits(uint32(f)))
			if s != "" || e != api.ErrArg || len(b) != 0 || g != api.ErrArg || h != api.ErrFormat || i != api.ErrFormat || r.Left() != 7 {
				t.Error(bit, s, e, g, h, i)
			}
			continue
		}
		p, h := flags.Parse(name)
		d, i := flags.Decode(b)
		if s != name || p != f || d != f || e != api.OK || g != api.OK || h != api.OK || i != api.OK || !bytes.Equal(b, der.Bits(uint32(f))) {
			t.Error(bit, s, p, d, e, g, h, i)
		}
	}
	for f, want := range map[api.Flags]string{0: "-", 129: "forwardable,renewable", 1<<11 | 1<<16 | 1<<20: "delegate,renew,renewable-ok", 0xfff: "forwardable,forwarded,proxiable,proxy,may-postdate,postdated,invalid,renewable,initial,pre-auth,transited,delegate"} {
		s, e := flags.Text(f)
		p, g := flags.Parse(want)
		if s != want || p != f || e != api.OK || g != api.OK {
			t.Error(f, s, p, e, g)
		}
	}
	for _, s := range []string{"", ",", "--", "-,", "forwardable,", ",forwardable", "forwardable,,renewable", "renewable,forwardable", "forwardable,forwardable", "Forwardable", "forwardable renewable", "forwardable, renewable", "x", "forwardable,x", "-,forwardable", "forwardable,-", "renew,renewable", "renewable-ok,x", "renewable-ok,", "renewable-ok,renewable-ok"} {
		if f, e := flags.Parse(s); f != 0 || e != api.ErrFormat {
			t.Error(s, f, e)
		}
	}
	if s, e := flags.Text(1<<12 | 1); s != "" || e != api.ErrArg {
		t.Error(s, e)
	}
}

func TestHasEach(t *testing.T) {
	if !flags.Has(7, 5) || flags.Has(5, 7) || !flags.Has(0, 0) || !flags.Has(5, 0) || flags.Has(0, 1) || !flags.Has(1<<31, 1<<31) {
		t.Error("has")
	}
	each := flags.Each(0xffffffff)
	for range 2 {
		n, last := 0, api.Flags(0)
		for f, name := range each {
			if f <= last {
				t.Error(f)
			}
			last = f
			for bit, want := range all {
				if f == 1<<bit && name == want {
					n++
				}
			}
		}
		if n != 17 {
			t.Error(n)
		}
	}
	for f := range each {
		if f != 1 {
			t.Error(f)
		}
		break
	}
	for f := range flags.Each(1<<12 | 1<<31) {
		t.Error(f)
	}
}

func TestRead(t *testing.T) {
	r := der.New(append(der.Bits(129), 9))
	if f, e := flags.Read(r); f != 129 || e != api.OK || r.Left() != 1 {
		t.Error(f, e)
	}
	if f, e := flags.Read(r); f != 0 || e != api.ErrFormat || r.Left() != 1 {
		t.Error(f, e)
	}
	for _, r := range []*der.Reader{nil, {}} {
		if f, e := flags.Read(r); f != 0 || e != api.ErrNil {
			t.Error(f, e)
		}
	}
	for i := range 7 {
		if f, e := flags.Decode(der.Bits(1)[:i]); f != 0 || e != api.ErrShort {
			t.Error(i, f, e)
		}
	}
	if f, e := flags.Decode(append(der.Bits(1), 0)); f != 0 || e != api.ErrLong {
		t.Error(f, e)
	}
	if f, e := flags.Decode(append(der.Bits(1<<12), 0)); f != 0 || e != api.ErrFormat {
		t.Error(f, e)
	}
	if f, e := flags.Decode(der.Integer(1)); f != 0 || e != api.ErrFormat {
		t.Error(f, e)
	}
}

const (
	fwd, fwded, prx, prxy, may, post, inv, ren, ini, pre, tra, del = api.FlagForwardable, api.FlagForwarded, api.FlagProxiable, api.FlagProxy, api.FlagMayPostdate, api.FlagPostdated, api.FlagInvalid, api.FlagRenewable, api.FlagInitial, api.FlagPreAuth, api.FlagTransited, api.FlagDelegate
	renew, validate, canon, constrained, renOK                     = api.OptionRenew, api.OptionValidate, api.OptionCanonical, api.OptionConstrained, api.OptionRenewableOK
)

func TestInitial(t *testing.T) {
	const each = fwd | prx | may | ren
	for _, x := range []struct {
		options, allowed api.Flags
		pre              bool
		want             api.Flags
		e                api.Errno
	}{
		{fwd | prx, fwd, true, fwd | ini | pre, api.OK}, {0, 0, false, ini, api.OK}, {0, 0xfff, false, ini, api.OK}, {each, each, false, each | ini, api.OK}, {each, 0, true, ini | pre, api.OK}, {canon | renOK, 0, false, ini, api.OK},
		{post, may, false, ini | post | inv, api.OK}, {post | may, may | ren, false, ini | post | inv | may, api.OK}, {post, each &^ may, false, 0, flags.ErrDenied}, {post, post, false, 0, flags.ErrDenied},
		{fwded, 0xfff, false, 0, flags.ErrOption}, {prxy, 0xfff, false, 0, flags.ErrOption}, {renew, 0xfff, false, 0, flags.ErrOption}, {validate, 0xfff, false, 0, flags.ErrOption}, {constrained, 0xfff, false, 0, flags.ErrOption}, {renew | post, 0, false, 0, flags.ErrOption},
		{inv, 0, false, 0, api.ErrArg}, {ini, 0, false, 0, api.ErrArg}, {1 << 12, 0, false, 0, api.ErrArg}, {1 << 21, 0, false, 0, api.ErrArg}, {renew, 1 << 12, false, 0, api.ErrArg}, {0, renew, false, 0, api.ErrArg},
	} {
		if f, e := flags.Initial(x.options, x.allowed, x.pre); f != x.want || e != x.e {
			t.Error(x, f, e)
		}
	}
}

func TestGrant(t *testing.T) {
	const each = fwd | prx | may | ren
	for i, x := range []struct {
		options, ticket, allowed, want api.Flags
		e                              api.Errno
	}{
		{fwded | fwd, fwd | ini | pre, fwd, fwd | fwded | pre, api.OK}, {fwded | fwd, ini, fwd, 0, flags.ErrDenied}, {validate, inv | ren, 0, ren, api.OK},
		{0, 0xfff &^ inv, 0, fwded | pre, api.OK}, {0, 0xfff &^ inv, 0xfff, fwded | pre | del, api.OK}, {each, each, each, each, api.OK}, {each, each, 0, 0, api.OK}, {fwd, prx | may | ren, 0xfff, 0, flags.ErrDenied}, {prx, 0, 0xfff, 0, flags.ErrDenied}, {may, 0, 0xfff, 0, flags.ErrDenied}, {ren, 0, 0xfff, 0, flags.ErrDenied},
		{fwded, fwd, fwd, fwded, api.OK}, {fwded, fwd, 0, 0, flags.ErrDenied}, {fwded, fwded, fwd, 0, flags.ErrDenied}, {prxy, prx, prx, prxy, api.OK}, {prxy, prx, 0, 0, flags.ErrDenied}, {prxy, 0, prx, 0, flags.ErrDenied}, {post, may, may, post | inv, api.OK}, {post, may, 0, 0, flags.ErrDenied}, {post, 0, may, 0, flags.ErrDenied},
		{canon | renOK | constrained, ini, del, del, api.OK}, {0, inv, 0, 0, flags.ErrInvalid}, {fwd, inv, 0, 0, flags.ErrInvalid}, {validate, 0, 0, 0, flags.ErrInvalid}, {renew, inv | ren, 0, 0, flags.ErrInvalid},
		{renew, 0, 0, 0, flags.ErrDenied}, {renew, ren | ini | fwd | post | tra | del | prxy, 0, ren | ini | fwd | post | tra | del | prxy, api.OK}, {renew | canon, ren, 0, ren, api.OK}, {validate | canon, ini | inv | post, 0, ini | post, api.OK},
		{validate | renew, inv | ren, 0, 0, flags.ErrOption}, {validate | fwd, inv, 0, 0, flags.ErrOption}, {renew | ren, 0, 0, 0, flags.ErrOption}, {renew | renOK, ren, 0, 0, flags.ErrOption}, {renew | constrained | canon, ren, 0, 0, flags.ErrOption},
		{inv, 0, 0, 0, api.ErrArg}, {0, renew, 0, 0, api.ErrArg}, {0, 0, renew, 0, api.ErrArg}, {validate | renew | ini, 0, 0, 0, api.ErrArg}, {validate | renew, 0, 1 << 12, 0, api.ErrArg},
	} {
		if f, e := flags.Grant(x.options, x.ticket, x.allowed); f != x.want || e != x.e {
			t.Error(i, x, f, e)
		}
	}
}

func TestConsequences(t *testing.T) {
	const each = fwd | prx | may | ren
	options := []api.Flags{0, fwd, prx, may, ren, each, fwded, prxy, post, renew, validate, fwded | prxy | post | each}
	for _, o := range options {
		for ticket := api.Flags(0); ticket < 1<<12; ticket += 3 {
			for _, allowed := range []api.Flags{0, fwd, may | prx, 0xfff} {
				f, e := flags.Grant(o, ticket, allowed)
				if e == api.OK && (!flags.Ticket(f) || f&each&^ticket != 0 || f&ini != 0 && o != renew && o != validate) {
					t.Fatal(o, ticket, allowed, f)
				}
				more, g := flags.Grant(o, ticket, 0xfff)
				if e == api.OK && (g != api.OK || f&^more != 0) {
					t.Fatal(o, ticket, allowed, f, more)
				}
			}
		}
	}
}
