package lockout_test

import (
	"strconv"
	"testing"

	"watchword/api"
	"watchword/database"
	"watchword/entry"
	"watchword/lockout"
	"watchword/name"
)

func principal(s string) api.Principal {
	p, e := name.Parse(s)
	if e != api.OK {
		panic(s)
	}
	return p
}

func rules(fails, window, lock int) api.Policy {
	return api.Policy{Name: "p", Length: 1, Classes: 1, Fails: fails, Window: window, Lock: lock}
}

func failed(fails, last int) api.Entry {
	return api.Entry{Name: principal("a@R"), Fails: fails, LastFail: last}
}

func TestCount(t *testing.T) {
	const never = -1
	for i, x := range []struct {
		e      api.Entry
		p      api.Policy
		now    int
		count  int
		locked bool
		until  int
	}{
		{failed(3, 10), rules(3, 100, 50), 59, 3, true, 60}, {failed(3, 10), rules(3, 100, 50), 60, 0, false, never}, {failed(3, 10), rules(3, 20, 50), 59, 3, true, 60}, {failed(5, 10), rules(3, 20, 50), 31, 5, true, 60}, {failed(3, 10), rules(3, 100, 0), 1 << 40, 3, true, 0}, {failed(3, 10), rules(3, 100, 1<<40), 1 << 40, 3, true, 1 << 40},
		{failed(2, 10), rules(3, 100, 50), 110, 2, false, never}, {failed(2, 10), rules(3, 100, 50), 111, 0, false, never}, {failed(2, 10), rules(3, 100, 5), 50, 2, false, never}, {failed(2, 10), rules(3, 0, 5), 1 << 40, 2, false, never}, {failed(9, 10), rules(0, 0, 5), 10, 9, false, never}, {failed(9, 10), rules(0, 7, 5), 18, 0, false, never}, {failed(9, 10), rules(0, 7, 5), 17, 9, false, never}, {failed(0, 0), rules(1, 0, 0), 0, 0, false, never}, {failed(1, 0), rules(1, 0, 0), 0, 1, true, 0}, {failed(3, 50), rules(3, 0, 10), 20, 3, true, 60},
	} {
		n, e := lockout.Count(x.e, x.p, x.now)
		ok, f := lockout.Locked(x.e, x.p, x.now)
		end, g := lockout.Until(x.e, x.p, x.now)
		if n != x.count || ok != x.locked || e != api.OK || f != api.OK || x.until == never && (g != api.ErrState || end != 0) || x.until != never && (end != x.until || g != api.OK) {
			t.Error(i, n, ok, end, e, f, g)
		}
	}
}

func TestErrors(t *testing.T) {
	good, p := failed(1, 1), rules(3, 1, 1)
	for i, x := range []struct {
		e   api.Entry
		p   api.Policy
		now int
	}{{api.Entry{}, p, 1}, {good, api.Policy{}, 1}, {good, p, -1}, {good, p, 1<<40 + 1}} {
		n1, e1 := lockout.Count(x.e, x.p, x.now)
		locked, e2 := lockout.Locked(x.e, x.p, x.now)
		n3, e3 := lockout.Until(x.e, x.p, x.now)
		_, e4 := lockout.Attempt(x.e, x.p, true, x.now)
		if e1 != api.ErrArg || e2 != api.ErrArg || e3 != api.ErrArg || e4 != api.ErrArg || n1+n3 != 0 || locked {
			t.Error(i, e1, e2, e3, e4)
		}
	}
	if _, e := lockout.Unlock(api.Entry{}); e != api.ErrArg {
		t.Error(e)
	}
	d, _ := database.New("R")
	d.Put(good)
	for i, x := range []struct {
		d    *database.Database
		p    api.Principal
		now  int
		want api.Errno
	}{{nil, api.Principal{}, -1, api.ErrNil}, {&database.Database{}, good.Name, 1, api.ErrNil}, {d, api.Principal{}, 1, api.ErrArg}, {d, principal("x@R"), -1, api.ErrArg}, {d, principal("x@R"), 1<<40 + 1, api.ErrArg}, {d, principal("x@R"), 1, api.ErrNone}} {
		if e := lockout.Record(x.d, x.p, true, x.now); e != x.want {
			t.Error(i, e)
		}
	}
}

func TestAttempt(t *testing.T) {
	p := rules(3, 100, 50)
	e := failed(0, 0)
	for i := range 3 {
		var code api.Errno
		if e, code = lockout.Attempt(e, p, false, 10); code != api.OK || e.Fails != i+1 || e.LastFail != 10 || e.LastSuccess != 0 {
			t.Error(i, e, code)
		}
	}
	for _, success := range []bool{true, false} {
		if x, code := lockout.Attempt(e, p, success, 59); code != api.ErrLocked || x.Fails != 0 || x.Name.Realm != "" {
			t.Error(x, code)
		}
	}
	again, code := lockout.Attempt(e, p, false, 60)
	if again.Fails != 1 || again.LastFail != 60 || code != api.OK {
		t.Error(again, code)
	}
	right, code := lockout.Attempt(e, p, true, 70)
	if right.Fails != 0 || right.LastFail != 10 || right.LastSuccess != 70 || code != api.OK {
		t.Error(right, code)
	}
	full, code := lockout.Attempt(failed(65535, 5), rules(0, 0, 0), false, 6)
	if full.Fails != lockout.MaxFails || full.LastFail != 6 || code != api.OK {
		t.Error(full, code)
	}
	u, code := lockout.Unlock(e)
	if u.Fails != 0 || u.LastFail != 10 || code != api.OK {
		t.Error(u, code)
	}
	if ok, _ := lockout.Locked(u, p, 10); ok {
		t.Error("locked")
	}
	if u, _ := lockout.Unlock(e); entry.Equal(u, e) {
		t.Error("equal")
	}
}

func TestRecordAccounts(t *testing.T) {
	d, _ := database.New("R")
	d.PutPolicy(rules(2, 0, 50))
	for _, s := range []string{"c", "a", "b", "free"} {
		e := api.Entry{Name: principal(s + "@R"), Aliases: []api.Principal{principal(s + "x@R")}, Policy: "p"}
		if s == "free" {
			e.Policy = ""
		}
		d.Put(e)
	}
	serial := d.Serial()
	for range 2 {
		for _, s := range []string{"c@R", "a@R", "free@R"} {
			if e := lockout.Record(d, principal(s), false, 10); e != api.OK {
				t.Error(s, e)
			}
		}
	}
	if d.Serial() != serial+6 {
		t.Error(d.Serial())
	}
	for s, want := range map[string]api.Errno{"a@R": api.ErrLocked, "b@R": api.OK, "free@R": api.OK, "ax@R": api.ErrNone} {
		c := d.Copy()
		if e := lockout.Record(c, principal(s), true, 59); e != want || e != api.OK && !c.Equal(d) {
			t.Error(s, e)
		}
	}
	if e := lockout.Record(d, principal("b@R"), true, 33); e != api.OK {
		t.Error(e)
	}
	if b, _ := d.Get(principal("b@R")); b.LastSuccess != 33 || b.Fails != 0 {
		t.Error(b)
	}
	accounts := lockout.Accounts(d, 59)
	d.Touch(principal("a@R"), 0, 0, 0)
	for range 2 {
		s := ""
		for i, p := range accounts {
			s += strconv.Itoa(i) + p.Parts[0] + " "
		}
		if s != "0a 1c " {
			t.Error(s)
		}
	}
	for i := range accounts {
		if i != 0 {
			t.Error(i)
		}
		break
	}
	for i, l := range []func(func(int, api.Principal) bool){lockout.Accounts(d, 60), lockout.Accounts(d, -1), lockout.Accounts(d, 1<<40+1), lockout.Accounts(nil, 59), lockout.Accounts(&database.Database{}, 59)} {
		for range l {
			t.Error(i)
		}
	}
}
