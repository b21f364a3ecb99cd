package lifetime_test

import (
	"bytes"
	"encoding/hex"
	"math/rand"
	"strings"
	"testing"

	"watchword/api"
	"watchword/der"
	"watchword/lifetime"
)

const top = api.MaxTime

func times(auth, start, end, renew int) api.Times {
	return api.Times{Auth: auth, Start: start, End: end, Renew: renew}
}

var invalid = []api.Times{{}, times(1, 0, 2, 0), times(0, 2, 2, 0), times(0, 3, 2, 0), times(-1, 0, 1, 0), times(0, 0, top+1, 0), times(0, 0, 5, 4), times(0, 0, 5, -1), times(0, 0, 5, top+1), times(-5, -3, -1, 0), times(0, top, top, top)}

func TestValid(t *testing.T) {
	for _, x := range []api.Times{times(0, 0, 1, 0), times(5, 5, 6, 6), times(1, 2, top, top), times(top-1, top-1, top, 0), times(0, 0, 5, top)} {
		if !lifetime.Valid(x) {
			t.Error(x)
		}
	}
	for _, x := range invalid {
		_, e := lifetime.Text(x)
		b, f := lifetime.Encode(x)
		d, g := lifetime.Derive(x, lifetime.Wish{}, lifetime.Limits{Life: 1}, 1, 0)
		r, h := lifetime.Renew(x, 1, 0)
		if lifetime.Valid(x) || e != api.ErrArg || f != api.ErrArg || g != api.ErrArg || h != api.ErrArg || len(b) != 0 || d != (api.Times{}) || r != (api.Times{}) || lifetime.Usable(x, 1, 0) != api.ErrArg || lifetime.Renewable(x, 1, 0) || lifetime.Left(x, 0) != 0 {
			t.Error(x, e, f, g, h)
		}
	}
}

func TestWithin(t *testing.T) {
	for _, x := range []struct {
		a, b, skew int
		want       bool
	}{{5, 5, 0, true}, {5, 6, 0, false}, {6, 5, 1, true}, {5, 10, 5, true}, {10, 5, 5, true}, {5, 11, 5, false}, {11, 5, 5, false}, {0, 86400, 86400, true}, {0, 1, 86401, false}, {0, 0, -1, false}, {-1, 0, 5, false}, {0, -1, 5, false}, {top, top + 1, 5, false}, {top + 1, top, 5, false}, {top, top, 0, true}} {
		if lifetime.Within(x.a, x.b, x.skew) != x.want {
			t.Error(x)
		}
	}
}

func TestUsable(t *testing.T) {
	for _, x := range []struct {
		t         api.Times
		now, skew int
		want      api.Errno
	}{
		{times(10, 55, 60, 0), 50, 5, api.OK}, {times(10, 56, 60, 0), 50, 5, lifetime.ErrEarly}, {times(10, 20, 45, 0), 50, 5, api.OK}, {times(10, 20, 44, 0), 50, 5, lifetime.ErrExpired},
		{times(10, 20, 50, 0), 50, 0, api.OK}, {times(10, 20, 50, 0), 51, 0, lifetime.ErrExpired}, {times(10, 20, 50, 0), 20, 0, api.OK}, {times(10, 20, 50, 0), 19, 0, lifetime.ErrEarly},
		{times(10, 20, 50, 0), -1, 0, api.ErrArg}, {times(10, 20, 50, 0), top + 1, 0, api.ErrArg}, {times(10, 20, 50, 0), 30, -1, api.ErrArg}, {times(10, 20, 50, 0), 30, 86401, api.ErrArg}, {times(10, 20, 50, 0), 0, 86400, api.OK},
	} {
		if e := lifetime.Usable(x.t, x.now, x.skew); e != x.want {
			t.Error(x, e)
		}
		renewable := x.t
		renewable.Renew = top
		if lifetime.Renewable(x.t, x.now, x.skew) || lifetime.Renewable(renewable, x.now, x.skew) != (x.want == api.OK) {
			t.Error(x)
		}
	}
	if x := times(0, 0, 50, 50); !lifetime.Renewable(x, 55, 5) || lifetime.Renewable(x, 56, 5) {
		t.Error("end")
	}
	if x := times(0, 0, 50, 0); lifetime.Left(x, 20) != 30 || lifetime.Left(x, 50) != 0 || lifetime.Left(x, 51) != 0 || lifetime.Left(x, -1) != 0 || lifetime.Left(x, top+1) != 0 {
		t.Error("left")
	}
}

func TestInitial(t *testing.T) {
	l := lifetime.Limits{Life: 100, Renew: 1000}
	for _, x := range []struct {
		w         lifetime.Wish
		l         lifetime.Limits
		now, skew int
		want      api.Times
		e         api.Errno
	}{
		{lifetime.Wish{}, l, 50, 5, times(50, 50, 150, 0), api.OK},
		{lifetime.Wish{}, lifetime.Limits{Life: 1}, 50, 0, times(50, 50, 51, 0), api.OK},
		{lifetime.Wish{Till: 120, Renew: 500}, l, 50, 5, times(50, 50, 120, 500), api.OK},
		{lifetime.Wish{From: 55}, l, 50, 5, times(50, 50, 150, 0), api.OK},
		{lifetime.Wish{From: 56}, l, 50, 5, times(50, 56, 156, 0), api.OK},
		{lifetime.Wish{From: 3}, l, 50, 5, times(50, 50, 150, 0), api.OK},
		{lifetime.Wish{Till: 50}, l, 50, 5, api.Times{}, lifetime.ErrNever},
		{lifetime.Wish{Till: 51}, l, 50, 5, times(50, 50, 51, 0), api.OK},
		{lifetime.Wish{Renew: 5000}, l, 50, 5, times(50, 50, 150, 1050), api.OK},
		{lifetime.Wish{From: 60, Renew: 5000}, l, 50, 5, times(50, 60, 160, 1060), api.OK},
		{lifetime.Wish{Renew: 149}, l, 50, 5, times(50, 50, 150, 0), api.OK},
		{lifetime.Wish{Renew: 150}, l, 50, 5, times(50, 50, 150, 150), api.OK},
		{lifetime.Wish{Renew: 500}, lifetime.Limits{Life: 100}, 50, 5, times(50, 50, 150, 0), api.OK},
		{lifetime.Wish{Renew: 500}, lifetime.Limits{Life: 100, Renew: 99}, 50, 5, times(50, 50, 150, 0), api.OK},
		{lifetime.Wish{Renew: top}, lifetime.Limits{Life: 1 << 31, Renew: 1 << 31}, top - 10, 0, times(top-10, top-10, top, top), api.OK},
		{lifetime.Wish{}, l, top, 0, api.Times{}, lifetime.ErrNever},
		{lifetime.Wish{From: top}, l, 0, 0, api.Times{}, lifetime.ErrNever},
		{lifetime.Wish{From: -1}, l, 50, 5, api.Times{}, api.ErrArg}, {lifetime.Wish{Till: top + 1}, l, 50, 5, api.Times{}, api.ErrArg}, {lifetime.Wish{Renew: -1}, l, 50, 5, api.Times{}, api.ErrArg},
		{lifetime.Wish{}, lifetime.Limits{}, 50, 5, api.Times{}, api.ErrArg}, {lifetime.Wish{}, lifetime.Limits{Life: 1<<31 + 1}, 50, 5, api.Times{}, api.ErrArg}, {lifetime.Wish{}, lifetime.Limits{Life: 1, Renew: -1}, 50, 5, api.Times{}, api.ErrArg}, {lifetime.Wish{}, lifetime.Limits{Life: 1, Renew: 1<<31 + 1}, 50, 5, api.Times{}, api.ErrArg},
		{lifetime.Wish{}, l, -1, 5, api.Times{}, api.ErrArg}, {lifetime.Wish{}, l, top + 1, 5, api.Times{}, api.ErrArg}, {lifetime.Wish{}, l, 5, -1, api.Times{}, api.ErrArg}, {lifetime.Wish{}, l, 5, 86401, api.Times{}, api.ErrArg},
	} {
		if got, e := lifetime.Initial(x.w, x.l, x.now, x.skew); got != x.want || e != x.e {
			t.Error(x, got, e)
		}
	}
}

func TestDerive(t *testing.T) {
	l := lifetime.Limits{Life: 100, Renew: 1000}
	for _, x := range []struct {
		base api.Times
		w    lifetime.Wish
		now  int
		want api.Times
		e    api.Errno
	}{
		{times(10, 40, 90, 300), lifetime.Wish{Renew: 400}, 50, times(10, 50, 90, 300), api.OK},
		{times(10, 40, 90, 300), lifetime.Wish{Till: 80, Renew: 60}, 50, times(10, 50, 80, 0), api.OK},
		{times(10, 40, 90, 300), lifetime.Wish{Till: 80, Renew: 80}, 50, times(10, 50, 80, 80), api.OK},
		{times(10, 40, 90, 0), lifetime.Wish{Renew: 400}, 50, times(10, 50, 90, 0), api.OK},
		{times(10, 40, 90, 300), lifetime.Wish{}, 50, times(10, 50, 90, 0), api.OK},
		{times(10, 40, 500, 0), lifetime.Wish{}, 50, times(10, 50, 150, 0), api.OK},
		{times(10, 40, 500, 0), lifetime.Wish{From: 56}, 50, times(10, 56, 156, 0), api.OK},
		{times(10, 40, 500, 0), lifetime.Wish{From: 55}, 50, times(10, 50, 150, 0), api.OK},
		{times(52, 52, 500, 0), lifetime.Wish{}, 50, times(52, 52, 152, 0), api.OK},
		{times(10, 40, 500, 5000), lifetime.Wish{Renew: 9000}, 50, times(10, 50, 150, 1050), api.OK},
		{times(10, 40, 44, 0), lifetime.Wish{}, 50, api.Times{}, lifetime.ErrExpired},
		{times(10, 56, 90, 0), lifetime.Wish{}, 50, api.Times{}, lifetime.ErrEarly},
		{times(10, 40, 48, 0), lifetime.Wish{}, 50, api.Times{}, lifetime.ErrNever},
		{times(10, 40, 90, 0), lifetime.Wish{From: 90}, 50, api.Times{}, lifetime.ErrNever},
		{times(10, 40, 44, 0), lifetime.Wish{From: -1}, 50, api.Times{}, api.ErrArg},
	} {
		if got, e := lifetime.Derive(x.base, x.w, l, x.now, 5); got != x.want || e != x.e {
			t.Error(x, got, e)
		}
	}
	base := times(10, 40, 44, 0)
	for _, x := range []struct {
		l         lifetime.Limits
		now, skew int
	}{{lifetime.Limits{}, 50, 5}, {l, -1, 5}, {l, 50, -1}, {l, top + 1, 5}, {l, 50, 86401}, {lifetime.Limits{Life: 5, Renew: -1}, 50, 5}} {
		if got, e := lifetime.Derive(base, lifetime.Wish{}, x.l, x.now, x.skew); got != (api.Times{}) || e != api.ErrArg {
			t.Error(x, got, e)
		}
	}
}

func TestRenew(t *testing.T) {
	for _, x := range []struct {
		t, want api.Times
		e       api.Errno
	}{
		{times(10, 20, 90, 300), times(10, 50, 120, 300), api.OK}, {times(10, 20, 90, 100), times(10, 50, 100, 100), api.OK}, {times(10, 20, 90, 0), api.Times{}, lifetime.ErrRenew}, {times(10, 56, 90, 300), api.Times{}, lifetime.ErrEarly}, {times(10, 20, 44, 300), api.Times{}, lifetime.ErrExpired},
		{times(10, 20, 45, 45), api.Times{}, lifetime.ErrNever}, {times(10, 20, 50, 50), api.Times{}, lifetime.ErrNever}, {times(10, 20, 46, 51), times(10, 50, 51, 51), api.OK}, {times(53, 54, 60, 100), times(53, 53, 59, 100), api.OK},
	} {
		if got, e := lifetime.Renew(x.t, 50, 5); got != x.want || e != x.e {
			t.Error(x, got, e)
		}
	}
	for _, x := range [][2]int{{-1, 5}, {top + 1, 5}, {50, -1}, {50, 86401}} {
		if _, e := lifetime.Renew(times(10, 20, 90, 300), x[0], x[1]); e != api.ErrArg {
			t.Error(x, e)
		}
	}
}

func TestConsequences(t *testing.T) {
	r := rand.New(rand.NewSource(1))
	for range 5000 {
		w := lifetime.Wish{From: r.Intn(60), Till: r.Intn(80), Renew: r.Intn(120)}
		l := lifetime.Limits{Life: 1 + r.Intn(40), Renew: r.Intn(90)}
		now, skew := r.Intn(50), r.Intn(10)
		if x, e := lifetime.Initial(w, l, now, skew); e == api.OK && (!lifetime.Valid(x) || x.End-x.Start > l.Life) {
			t.Error(w, l, now, skew, x)
		}
		base := times(r.Intn(20), 20+r.Intn(20), 40+r.Intn(30), 80*r.Intn(2))
		if x, e := lifetime.Derive(base, w, l, now, skew); e == api.OK && (!lifetime.Valid(x) || x.End-x.Start > l.Life || x.End > base.End || x.Renew > base.Renew || x.Auth != base.Auth) {
			t.Error(base, w, l, now, skew, x)
		}
		if x, e := lifetime.Renew(base, now, skew); e == api.OK && (!lifetime.Valid(x) || x.End > base.Renew || x.End-x.Start > base.End-base.Start || x.Auth != base.Auth || x.Renew != base.Renew) {
			t.Error(base, now, skew, x)
		}
	}
}

func TestText(t *testing.T) {
	for _, x := range []api.Times{times(0, 0, 1, 0), times(10, 20, 30, 40), times(1, 2, top, top)} {
		s, e := lifetime.Text(x)
		y, f := lifetime.Parse(s)
		if y != x || e != api.OK || f != api.OK {
			t.Error(x, s, y, e, f)
		}
	}
	if s, _ := lifetime.Text(times(10, 20, 30, 40)); s != "10 20 30 40" {
		t.Error(s)
	}
	for _, s := range []string{"", "10 20 30", "10 20 30 40 50", "10 20 30 40 ", " 10 20 30 40", "10  20 30 40", "010 20 30 40", "+10 20 30 40", "10 20 30 -0", "10 20 30 a", "10 20 30 ", "20 10 30 40", "10 20 30 25", "10 20 1099511627777 0", "99999999999999999999 20 30 40", "0 0 0 0"} {
		if x, e := lifetime.Parse(s); x != (api.Times{}) || e != api.ErrFormat {
			t.Error(s, x, e)
		}
	}
}

func raw(s string) []byte {
	b, err := hex.DecodeString(strings.ReplaceAll(s, " ", ""))
	if err != nil {
		panic(err)
	}
	return b
}

func TestEncode(t *testing.T) {
	const a, b, c = "A0 08 18 06 00 00 00 00 00 0A ", "A1 08 18 06 00 00 00 00 00 14 ", "A2 08 18 06 00 00 00 00 00 1E "
	for _, x := range []api.Times{times(10, 20, 30, 0), times(10, 20, 30, 40), times(1, 2, top, top)} {
		e, f := lifetime.Encode(x)
		y, g := lifetime.Decode(e)
		r := der.New(append(bytes.Clone(e), 7))
		z, h := lifetime.Read(r)
		if x != y || x != z || f != api.OK || g != api.OK || h != api.OK || r.Left() != 1 {
			t.Error(x, y, z, f, g, h)
		}
		if _, g = lifetime.Decode(append(e, 7)); g != api.ErrLong {
			t.Error(g)
		}
	}
	if e, _ := lifetime.Encode(times(10, 20, 30, 0)); !bytes.Equal(e, raw("30 1E"+a+b+c)) {
		t.Error(e)
	}
	for s, want := range map[string]api.Errno{
		"": api.ErrShort, "31 00": api.ErrFormat, "30 00": api.ErrShort, "30 14" + b + c: api.ErrFormat, "30 14" + a + b: api.ErrShort, "30 14" + a + c: api.ErrFormat,
		"30 02 A0 00": api.ErrShort, "30 05 A0 03 02 01 0A": api.ErrFormat, "30 20 A0 0A 18 06 00 00 00 00 00 0A 05 00" + b + c: api.ErrFormat,
		"30 28" + a + b + c + "A3 08 18 06 00 00 00 00 00 00": api.ErrFormat, "30 28" + a + b + c + "A3 08 18 06 00 00 00 00 00 1D": api.ErrFormat, "30 28" + a + b + c + "A3 08 18 06 00 00 00 00 00 1E": api.OK, "30 20" + a + b + c + "A3 00": api.ErrShort, "30 21" + a + b + c + "01 01 00": api.ErrFormat,
		"30 2A" + a + b + c + "A3 0A 18 06 00 00 00 00 00 1E 05 00": api.ErrFormat, "30 1E" + a + b + strings.Replace(c, "1E", "14", 1): api.ErrFormat,
	} {
		r := der.New(raw(s))
		x, e := lifetime.Read(r)
		_, f := lifetime.Decode(raw(s))
		if e != want || f != want || e != api.OK && (x != (api.Times{}) || r.Left() != len(raw(s))) {
			t.Error(s, x, e, f, want)
		}
	}
	for _, r := range []*der.Reader{nil, {}} {
		if x, e := lifetime.Read(r); x != (api.Times{}) || e != api.ErrNil {
			t.Error(x, e)
		}
	}
}
