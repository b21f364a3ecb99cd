package drift_test

import (
	"math/big"
	"math/rand"
	"testing"

	"watchword/api"
	"watchword/drift"
)

const top = api.MaxTime

func start(t *testing.T, at, shown, rate int) *drift.Clock {
	t.Helper()
	c, e := drift.New(at, shown, rate)
	if e != api.OK {
		t.Fatal(e)
	}
	return c
}

func TestNew(t *testing.T) {
	for i, v := range []struct {
		at, shown, rate int
		ok              bool
	}{{0, 0, 0, true}, {top, top, 100000, true}, {0, 0, -100000, true}, {-1, 0, 0, false}, {top + 1, 0, 0, false}, {0, -1, 0, false}, {0, top + 1, 0, false}, {0, 0, 100001, false}, {0, 0, -100001, false}} {
		if c, e := drift.New(v.at, v.shown, v.rate); (e == api.OK) != v.ok || !v.ok && (c != nil || e != api.ErrArg) {
			t.Error(i, e)
		}
	}
	good := start(t, 0, 0, 0)
	for _, c := range []*drift.Clock{nil, {}} {
		_, e1 := c.Show(-1)
		_, e2 := c.Deviation(-1)
		_, e3 := c.Exceeds(-1, -1)
		_, e4 := c.Within(nil, -1, -1)
		for i, e := range []api.Errno{e1, e2, e3, e4, c.Step(-1, 0), c.SetRate(-1, 1<<60)} {
			if e != api.ErrNil {
				t.Error(i, e)
			}
		}
		if _, e := good.Within(c, -1, 0); e != api.ErrArg || c.Copy() != nil {
			t.Error(e)
		}
	}
}

func TestShow(t *testing.T) {
	c := start(t, 100, 50, 100000)
	for i, v := range []struct {
		at, want int
		e        api.Errno
	}{{100, 50, api.OK}, {109, 59, api.OK}, {110, 61, api.OK}, {99, 0, api.ErrState}, {-1, 0, api.ErrRange}, {top + 1, 0, api.ErrRange}, {top, 0, api.ErrRange}} {
		if s, e := c.Show(v.at); s != v.want || e != v.e {
			t.Error(i, s, e)
		}
		d, e := c.Deviation(v.at)
		if e != v.e || e == api.OK && d != v.want-v.at || e != api.OK && d != 0 {
			t.Error(i, d, e)
		}
	}
	slow := start(t, 0, 0, -1)
	for at, want := range map[int]int{0: 0, 1: 0, 2: 1, 1000000: 999999, 1000001: 999999, 1000002: 1000000} {
		if s, e := slow.Show(at); s != want || e != api.OK {
			t.Error(at, s, e)
		}
	}
	r := rand.New(rand.NewSource(1))
	for range 2000 {
		base, shown, rate := r.Intn(1000), r.Intn(1<<39), r.Intn(200001)-100000
		c := start(t, base, shown, rate)
		at := base + r.Intn(1<<38)
		gain := new(big.Int).Div(new(big.Int).Mul(big.NewInt(int64(rate)), big.NewInt(int64(at-base))), big.NewInt(1000000))
		// Div of math/big rounds down for a positive divisor.
		want := shown + at - base + int(gain.Int64())
		if s, e := c.Show(at); s != want || e != api.OK {
			t.Fatal(base, shown, rate, at, s, want, e)
		}
	}
}

func TestStepRate(t *testing.T) {
	c := start(t, 100, 50, 100000)
	d := c.Copy()
	if c.Step(110, 5) != api.OK {
		t.Error("step")
	}
	a, _ := c.Show(110)
	b, _ := c.Show(120)
	if a != 66 || b != 77 || c.SetRate(120, -100000) != api.OK {
		t.Error(a, b)
	}
	a, _ = c.Show(130)
	b, _ = c.Show(131)
	if a != 86 || b != 86 {
		t.Error(a, b)
	}
	if s, _ := d.Show(110); s != 61 {
		t.Error("copy", s)
	}
	for i, v := range []struct {
		at, by int
		want   api.Errno
	}{{119, 0, api.ErrState}, {-1, 0, api.ErrRange}, {top + 1, 0, api.ErrRange}, {130, -87, api.ErrRange}, {130, top, api.ErrRange}, {130, 1<<63 - 1, api.ErrRange}, {130, -1 << 63, api.ErrRange}, {130, -86, api.OK}} {
		if e := c.Step(v.at, v.by); e != v.want {
			t.Error(i, e)
		}
	}
	if s, _ := c.Show(130); s != 0 {
		t.Error(s)
	}
	for i, v := range []struct {
		at, rate int
		want     api.Errno
	}{{-1, 100001, api.ErrArg}, {-1, -100001, api.ErrArg}, {-1, 0, api.ErrRange}, {129, 0, api.ErrState}, {130, 0, api.OK}} {
		if e := c.SetRate(v.at, v.rate); e != v.want {
			t.Error(i, e)
		}
	}
	late := start(t, 0, top, 5)
	most := start(t, 100, 50, 0)
	if most.Step(100, top-49) != api.ErrRange || most.Step(100, top-50) != api.OK {
		t.Error("most")
	}
	if late.SetRate(1, 0) != api.ErrRange || late.Step(1, -5) != api.ErrRange || late.Step(0, -top) != api.OK {
		t.Error("late")
	}
}

func TestExceeds(t *testing.T) {
	c := start(t, 100, 50, 100000)
	for i, v := range []struct {
		c              *drift.Clock
		at, skew, want int
		e              api.Errno
	}{{c, 100, 50, 1110, api.OK}, {c, 100, 49, 100, api.OK}, {c, 100, 60, 1210, api.OK}, {c, 1205, 60, 1210, api.OK}, {c, 1300, 60, 1300, api.OK}, {c, 99, 60, 0, api.ErrState}, {c, -1, 60, 0, api.ErrRange}, {c, top + 1, 60, 0, api.ErrRange}, {c, -1, -1, 0, api.ErrArg}, {c, 100, top, 0, api.ErrNone}, {start(t, 0, 0, 0), 0, 0, 0, api.ErrNone}, {start(t, 0, 0, -1), 0, 0, 1, api.OK}, {start(t, 0, 0, 1), 0, 0, 1000000, api.OK}, {start(t, 0, 0, -1), 5, 1, 1000001, api.OK}, {start(t, 0, 10, -100000), 0, 10, 201, api.OK}, {start(t, 0, 10, 0), 7, 9, 7, api.OK}, {start(t, 0, 5, 0), 7, 1<<63 - 1, 0, api.ErrNone}} {
		if at, e := v.c.Exceeds(v.at, v.skew); at != v.want || e != v.e {
			t.Error(i, at, e)
		}
	}
}

func TestWithin(t *testing.T) {
	a, b := start(t, 100, 50, 0), start(t, 100, 60, 100000)
	for i, v := range []struct {
		c, d     *drift.Clock
		at, skew int
		want     bool
		e        api.Errno
	}{{a, b, 100, 10, true, api.OK}, {a, a, 100, 0, true, api.OK}, {a, b, 100, 0, false, api.OK}, {a, a, 100, -1, false, api.ErrArg}, {a, b, 100, 9, false, api.OK}, {b, a, 100, 10, true, api.OK}, {b, a, 110, 10, false, api.OK}, {a, b, 110, 11, true, api.OK}, {a, b, 99, 5, false, api.ErrState}, {a, b, -1, 5, false, api.ErrRange}, {a, b, -1, -1, false, api.ErrArg}, {a, nil, -1, 5, false, api.ErrArg}, {a, start(t, 200, 1, 0), 150, 5, false, api.ErrState}, {start(t, 200, 1, 0), a, top, 5, false, api.OK}} {
		if ok, e := v.c.Within(v.d, v.at, v.skew); ok != v.want || e != v.e {
			t.Error(i, ok, e)
		}
	}
}

func TestMonotone(t *testing.T) {
	for _, rate := range []int{-100000, -99999, -1, 0, 1, 33333, 100000} {
		c := start(t, 10, 500, rate)
		last := 0
		for at := 10; at < 400; at++ {
			s, _ := c.Show(at)
			if s < last {
				t.Fatal(rate, at)
			}
			last = s
			d := c.Copy()
			d.SetRate(at, rate)
			x, _ := d.Show(at + 137)
			y, _ := c.Show(at + 137)
			if x-y > 1 || y-x > 1 {
				t.Fatal(rate, at, x, y)
			}
		}
	}
}
