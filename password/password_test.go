package password_test

import (
	"bytes"
	"slices"
	"testing"

	"watchword/api"
	"watchword/database"
	"watchword/derive"
	"watchword/entry"
	"watchword/name"
	"watchword/password"
	"watchword/profile"
)

func principal(s string) api.Principal {
	p, e := name.Parse(s)
	if e != api.OK {
		panic(s)
	}
	return p
}

var plan = password.Plan{Profiles: []int{1}, Iterations: 4}

func a() api.Principal { return principal("a@R") }

func staff() api.Policy {
	return api.Policy{Name: "staff", Length: 4, Classes: 1, History: 2, MinAge: 60, MaxAge: 600}
}

// start returns a database with the entry a@R (alias b@R) and the policy staff.
func start(t *testing.T) *database.Database {
	t.Helper()
	d, _ := database.New("R")
	d.PutPolicy(staff())
	e := api.Entry{Name: a(), Aliases: []api.Principal{principal("b@R")}, Policy: "staff"}
	if d.Put(e) != api.OK {
		t.Fatal("put")
	}
	return d
}

func get(t *testing.T, d *database.Database) api.Entry {
	t.Helper()
	e, code := d.Get(a())
	if code != api.OK {
		t.Fatal(code)
	}
	return e
}

func set(t *testing.T, d *database.Database, word string, now int) {
	t.Helper()
	if r, e := password.Set(d, a(), []byte(word), now, plan, false); r != 0 || e != api.OK {
		t.Fatal(r, e)
	}
}

func change(d *database.Database, old, new string, now int) (api.Rule, api.Errno) {
	return password.Change(d, a(), []byte(old), []byte(new), now, plan)
}

func TestDerive(t *testing.T) {
	p := principal("host/a@R.S")
	if s, e := password.Salt(p); s != "R.Shosta" || e != api.OK {
		t.Error(s, e)
	}
	want, _ := derive.Password([]byte("pw"), []byte("history host/a@R.S"), 16, 16)
	if b, e := password.Digest(p, []byte("pw")); !bytes.Equal(b, want) || e != api.OK {
		t.Error(b, e)
	}
	both := password.Plan{Profiles: []int{1, 2}, Iterations: 5}
	s, e := password.Derive(both, p, []byte("pw"), 7, 99)
	k1, _ := profile.FromPassword(1, "pw", "R.Shosta", 5)
	k2, _ := profile.FromPassword(2, "pw", "R.Shosta", 5)
	k1.Version, k2.Version = 7, 7
	if e != api.OK || s.Version != 7 || s.Created != 99 || s.Salt != "R.Shosta" || s.Iterations != 5 || len(s.Keys) != 2 || !profile.Equal(s.Keys[0], k1) || !profile.Equal(s.Keys[1], k2) {
		t.Error(s, e)
	}
	long := make([]byte, 4097)
	_, e1 := password.Salt(api.Principal{})
	_, e2 := password.Digest(api.Principal{}, nil)
	_, e3 := password.Digest(p, long)
	for i, e := range []api.Errno{e1, e2, e3} {
		if e != api.ErrArg {
			t.Error(i, e)
		}
	}
	for i, x := range []struct {
		plan             password.Plan
		p                api.Principal
		word             []byte
		version, created int
	}{{password.Plan{}, p, nil, 1, 1}, {password.Plan{Profiles: []int{1}}, p, nil, 1, 1}, {password.Plan{Profiles: []int{1}, Iterations: 65537}, p, nil, 1, 1}, {password.Plan{Profiles: []int{2, 1}, Iterations: 1}, p, nil, 1, 1}, {password.Plan{Profiles: []int{1, 1}, Iterations: 1}, p, nil, 1, 1}, {password.Plan{Profiles: []int{3}, Iterations: 1}, p, nil, 1, 1}, {plan, api.Principal{}, nil, 1, 1}, {plan, p, long, 1, 1}, {plan, p, nil, 0, 1}, {plan, p, nil, 65536, 1}, {plan, p, nil, 1, -1}, {plan, p, nil, 1, 1<<40 + 1}} {
		if s, e := password.Derive(x.plan, x.p, x.word, x.version, x.created); e != api.ErrArg || len(s.Keys) != 0 {
			t.Error(i, e)
		}
	}
	least, e := password.Derive(password.Plan{Profiles: []int{2}, Iterations: 1}, p, nil, 1, 0)
	if e != api.OK || len(least.Keys) != 1 || least.Iterations != 1 {
		t.Error(least, e)
	}
	if _, e := password.Derive(plan, p, long[1:], 65535, 1<<40); e != api.OK {
		t.Error(e)
	}
}

func TestMatch(t *testing.T) {
	d := start(t)
	if _, e := password.Match(get(t, d), nil); e != api.ErrState {
		t.Error(e)
	}
	set(t, d, "pass1", 100)
	for word, want := range map[string]bool{"pass1": true, "pass2": false, "": false} {
		if ok, e := password.Match(get(t, d), []byte(word)); ok != want || e != api.OK {
			t.Error(word, ok, e)
		}
	}
	random, wrapped := get(t, d), get(t, d)
	random.Keys[0].Salt, random.Keys[0].Iterations = "", 0
	wrapped.Master = 1
	ok1, e1 := password.Match(random, []byte("pass1"))
	ok2, e2 := password.Match(wrapped, []byte("pass1"))
	if ok1 || ok2 {
		t.Error("a match")
	}
	_, e3 := password.Match(api.Entry{}, nil)
	_, e4 := password.Match(get(t, d), make([]byte, 4097))
	if e1 != api.ErrState || e2 != api.ErrState || e3 != api.ErrArg || e4 != api.ErrArg {
		t.Error(e1, e2, e3, e4)
	}
}

func TestChange(t *testing.T) {
	d := start(t)
	set(t, d, "pass1", 100)
	serial := d.Serial()
	for i, x := range []struct {
		old, new string
		now      int
		rule     api.Rule
		want     api.Errno
	}{{"pass1", "pass2", 159, 0, password.ErrTooSoon}, {"x", "pass2", 159, 0, api.ErrCheck}, {"pass1", "abc", 159, 0, password.ErrTooSoon}, {"pass1", "abc", 160, api.RuleShort, password.ErrRule}, {"pass1", "pass1", 160, 0, password.ErrReused}, {"pass1", "pass2", 99, 0, api.ErrArg}, {"x", "pass2", 99, 0, api.ErrArg}} {
		if r, e := change(d, x.old, x.new, x.now); r != x.rule || e != x.want || d.Serial() != serial {
			t.Error(i, r, e)
		}
	}
	once := get(t, d)
	once.Keys[0].Salt, once.Keys[0].Iterations = "", 0
	c := d.Copy()
	c.Put(once)
	if _, e := change(c, "pass1", "pass2", 160); e != api.ErrState {
		t.Error(e)
	}
	once = get(t, d)
	once.Keys[0], _ = password.Derive(password.Plan{Profiles: []int{1}, Iterations: 1}, a(), []byte("pass1"), 1, 100)
	c.Put(once)
	if _, e := change(c, "pass1", "pass2", 160); e != api.OK {
		t.Error(e)
	}
	if r, e := change(d, "pass1", "pass2", 160); r != 0 || e != api.OK || d.Serial() != serial+1 {
		t.Error(r, e)
	}
	x := get(t, d)
	digest, _ := password.Digest(a(), []byte("pass1"))
	want, _ := password.Derive(plan, a(), []byte("pass2"), 2, 160)
	if len(x.Keys) != 2 || x.Keys[0].Version != 2 || x.Keys[0].Created != 160 || !profile.Equal(x.Keys[0].Keys[0], want.Keys[0]) || x.Keys[1].Version != 1 || x.PasswordExpires != 760 || len(x.History) != 1 || !bytes.Equal(x.History[0], digest) {
		t.Error(x)
	}
	if _, e := change(d, "pass2", "pass1", 220); e != password.ErrReused {
		t.Error(e)
	}
	for i, words := range [][2]string{{"pass2", "pass3"}, {"pass3", "pass4"}, {"pass4", "pass1"}} {
		if _, e := change(d, words[0], words[1], 220+60*i); e != api.OK {
			t.Error(i, e)
		}
	}
	x = get(t, d)
	first, _ := password.Digest(a(), []byte("pass4"))
	second, _ := password.Digest(a(), []byte("pass3"))
	if len(x.History) != 2 || !bytes.Equal(x.History[0], first) || !bytes.Equal(x.History[1], second) {
		t.Error(x.History)
	}
	if ok, e := password.Match(x, []byte("pass1")); !ok || e != api.OK {
		t.Error(e)
	}
}

func TestMustChange(t *testing.T) {
	d := start(t)
	if r, e := password.Set(d, a(), []byte("pass1"), 100, plan, true); r != 0 || e != api.OK {
		t.Fatal(r, e)
	}
	if get(t, d).Attributes != api.AttrMustChange {
		t.Error(get(t, d).Attributes)
	}
	if _, e := change(d, "pass1", "pass2", 100); e != api.OK {
		t.Error(e)
	}
	if x := get(t, d); x.Attributes != 0 || x.PasswordExpires != 700 {
		t.Error(x)
	}
	if _, e := change(d, "pass2", "pass3", 100); e != password.ErrTooSoon {
		t.Error(e)
	}
}

func TestWithoutPolicy(t *testing.T) {
	d := start(t)
	set(t, d, "pass1", 100)
	change(d, "pass1", "pass2", 200)
	x := get(t, d)
	x.Policy = ""
	d.Put(x)
	if r, e := change(d, "pass2", "p", 200); r != 0 || e != api.OK {
		t.Error(r, e)
	}
	if x := get(t, d); x.PasswordExpires != 0 || len(x.History) != 0 || len(x.Keys) != 3 {
		t.Error(x)
	}
	if r, e := change(d, "p", "p", 200); r != 0 || e != api.OK {
		t.Error(r, e)
	}
}

func TestSet(t *testing.T) {
	d := start(t)
	if r, e := password.Set(d, a(), []byte("abc"), 100, plan, false); r != api.RuleShort || e != password.ErrRule {
		t.Error(r, e)
	}
	set(t, d, "pass1", 100)
	change(d, "pass1", "pass2", 200)
	before := get(t, d)
	set(t, d, "pass1", 200)
	x := get(t, d)
	if len(x.Keys) != 3 || x.Keys[0].Version != 3 || !slices.EqualFunc(x.History, before.History, bytes.Equal) || x.PasswordExpires != 800 {
		t.Error(x)
	}
	if _, e := password.Set(d, a(), []byte("pass1"), 199, plan, false); e != api.ErrArg {
		t.Error(e)
	}
}

func TestSetKeys(t *testing.T) {
	d := start(t)
	password.Set(d, a(), []byte("pass1"), 100, plan, true)
	keys := []api.Key{{Profile: 1, Version: 77, Bytes: bytes.Repeat([]byte{1}, 16)}, {Profile: 2, Bytes: bytes.Repeat([]byte{2}, 32)}}
	if e := password.SetKeys(d, a(), keys, 100); e != api.OK {
		t.Error(e)
	}
	keys[0].Bytes[0] = 9
	x := get(t, d)
	if s := x.Keys[0]; s.Version != 2 || s.Salt != "" || s.Iterations != 0 || s.Created != 100 || len(s.Keys) != 2 || s.Keys[0].Version != 2 || s.Keys[0].Bytes[0] != 1 || x.PasswordExpires != 0 || x.Attributes != 0 {
		t.Error(x)
	}
	if _, e := change(d, "pass1", "pass2", 500); e != api.ErrState {
		t.Error(e)
	}
	for i, l := range [][]api.Key{nil, {{}}, {keys[1], keys[0]}, {keys[0], keys[0]}, {{Profile: 1, Version: -1, Bytes: keys[0].Bytes}}, {{Profile: 3, Bytes: keys[0].Bytes}}} {
		if e := password.SetKeys(d, a(), l, 100); e != api.ErrArg {
			t.Error(i, e)
		}
	}
	if e := password.SetKeys(d, a(), keys, 99); e != api.ErrArg {
		t.Error(e)
	}
	for i := range 20 {
		if e := password.SetKeys(d, a(), keys[:1], 100+i); e != api.OK {
			t.Error(i, e)
		}
	}
	if x := get(t, d); len(x.Keys) != entry.MaxSets || x.Keys[0].Version != 22 || x.Keys[15].Version != 7 {
		t.Error(len(x.Keys))
	}
	x = get(t, d)
	x.Keys = x.Keys[:1]
	x.Keys[0].Version, x.Keys[0].Keys[0].Version = 65535, 65535
	d.Put(x)
	if e := password.SetKeys(d, a(), keys, 500); e != api.ErrFull {
		t.Error(e)
	}
	if _, e := password.Set(d, a(), []byte("abc"), 500, plan, false); e != api.ErrFull {
		t.Error(e)
	}
}

func TestErrors(t *testing.T) {
	d := start(t)
	word, long := []byte("pass1"), make([]byte, 4097)
	set(t, d, "pass1", 100)
	wrapped := get(t, d)
	wrapped.Master = 3
	w := d.Copy()
	w.Put(wrapped)
	key := []api.Key{{Profile: 1, Bytes: bytes.Repeat([]byte{1}, 16)}}
	for i, x := range []struct {
		d    *database.Database
		p    api.Principal
		word []byte
		now  int
		plan password.Plan
		want api.Errno
	}{
		{nil, api.Principal{}, long, -1, password.Plan{}, api.ErrNil}, {&database.Database{}, a(), word, 500, plan, api.ErrNil}, {d, api.Principal{}, word, 500, plan, api.ErrArg}, {d, a(), long, 500, plan, api.ErrArg}, {d, a(), word, -1, plan, api.ErrArg}, {d, a(), word, 1<<40 + 1, plan, api.ErrArg}, {d, a(), word, 500, password.Plan{Profiles: []int{1}}, api.ErrArg},
		{d, principal("b@R"), word, 500, plan, api.ErrNone}, {d, principal("x@R"), word, 500, plan, api.ErrNone}, {d, principal("a@S"), word, 500, plan, api.ErrNone}, {w, a(), word, 500, plan, api.ErrState}, {w, a(), word, 50, plan, api.ErrState},
	} {
		_, e := password.Change(x.d, x.p, x.word, []byte("pass2"), x.now, x.plan)
		_, f := password.Set(x.d, x.p, x.word, x.now, x.plan, false)
		if e != x.want || f != x.want {
			t.Error(i, e, f)
		}
		if len(x.word) < 4097 && x.plan.Iterations > 0 {
			_, g := password.Purge(x.d, x.p, x.now, 10)
			if h := password.SetKeys(x.d, x.p, key, x.now); g != x.want || h != x.want {
				t.Error(i, g, h)
			}
		}
	}
	if _, e := password.Change(d, a(), word, long, 500, plan); e != api.ErrArg {
		t.Error(e)
	}
	empty := start(t)
	if _, e := change(empty, "a", "b", 500); e != api.ErrState {
		t.Error(e)
	}
	for _, lifetime := range []int{-1, 1<<40 + 1} {
		if n, e := password.Purge(d, a(), 500, lifetime); n != 0 || e != api.ErrArg {
			t.Error(n, e)
		}
	}
}

func TestPurge(t *testing.T) {
	d := start(t)
	set(t, d, "pass1", 100)
	set(t, d, "pass2", 160)
	set(t, d, "pass3", 200)
	x := get(t, d)
	for _, y := range []struct {
		now, lifetime int
		want          []int
	}{{210, 10, []int{1}}, {211, 10, []int{2, 1}}, {170, 10, nil}, {171, 10, []int{1}}, {1 << 40, 0, []int{2, 1}}, {-1, 0, nil}, {500, -1, nil}, {1<<40 + 1, 0, nil}, {500, 1<<40 + 1, nil}} {
		versions := password.Purgeable(x, y.now, y.lifetime)
		for range 2 {
			if got := slices.Collect(versions); !slices.Equal(got, y.want) {
				t.Error(y, got)
			}
		}
		for v := range versions {
			if v != y.want[0] {
				t.Error(v)
			}
			break
		}
	}
	wrapped := x
	wrapped.Master = 4
	if got := slices.Collect(password.Purgeable(wrapped, 211, 10)); len(got) != 2 {
		t.Error(got)
	}
	if got := slices.Collect(password.Purgeable(api.Entry{}, 211, 10)); len(got) != 0 {
		t.Error(got)
	}
	serial := d.Serial()
	n, e := password.Purge(d, a(), 170, 10)
	if n != 0 || e != api.OK || d.Serial() != serial+1 {
		t.Error(n, e, d.Serial())
	}
	n, e = password.Purge(d, a(), 171, 10)
	if y := get(t, d); n != 1 || e != api.OK || len(y.Keys) != 2 || y.Keys[1].Version != 2 || !profile.Equal(y.Keys[1].Keys[0], x.Keys[1].Keys[0]) {
		t.Error(n, e, y)
	}
	n, e = password.Purge(d, a(), 1<<40, 0)
	if y := get(t, d); n != 1 || e != api.OK || len(y.Keys) != 1 || y.Keys[0].Version != 3 {
		t.Error(n, e, y)
	}
	empty := start(t)
	if n, e := password.Purge(empty, a(), 1, 1); n != 0 || e != api.OK {
		t.Error(n, e)
	}
}
