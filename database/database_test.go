package database_test

import (
	"bytes"
	"encoding/binary"
	"strconv"
	"testing"

	"watchword/api"
	"watchword/database"
	"watchword/entry"
	"watchword/name"
	"watchword/policy"
)

func principal(s string) api.Principal {
	p, e := name.Parse(s)
	if e != api.OK {
		panic(s)
	}
	return p
}

func newDatabase(t *testing.T) *database.Database {
	t.Helper()
	d, e := database.New("R")
	if e != api.OK {
		t.Fatal(e)
	}
	return d
}

func staff(name string) api.Policy { return api.Policy{Name: name, Length: 1, Classes: 1} }

// named returns an entry with a name and aliases.
func named(s string, aliases ...string) api.Entry {
	e := api.Entry{Name: principal(s)}
	for _, a := range aliases {
		e.Aliases = append(e.Aliases, principal(a))
	}
	return e
}

func expect(t *testing.T, what string, got, want api.Errno) {
	t.Helper()
	if got != want {
		t.Error(what, got, want)
	}
}

func TestNew(t *testing.T) {
	for _, realm := range []string{"", "r", "R."} {
		if d, e := database.New(realm); d != nil || e != api.ErrArg {
			t.Error(realm, e)
		}
	}
	d := newDatabase(t)
	if d.Realm() != "R" || d.Serial() != 0 || d.Len() != 0 {
		t.Error(d.Realm(), d.Serial(), d.Len())
	}
}

func TestEntries(t *testing.T) {
	d := newDatabase(t)
	a := named("a@R", "b@R")
	expect(t, "put a", d.Put(a), api.OK)
	expect(t, "put b", d.Put(named("b@R")), api.ErrBusy)
	expect(t, "put c with a", d.Put(named("c@R", "a@R")), api.ErrBusy)
	expect(t, "put c with b", d.Put(named("c@R", "x@R", "b@R")), api.ErrBusy)
	expect(t, "put other realm", d.Put(named("a@S")), api.ErrArg)
	expect(t, "put invalid", d.Put(api.Entry{}), api.ErrArg)
	expect(t, "remove alias", d.Remove(principal("b@R")), api.ErrNone)
	expect(t, "touch alias", d.Touch(principal("b@R"), 1, 2, 3), api.ErrNone)
	if d.Serial() != 1 || d.Len() != 1 {
		t.Error(d.Serial(), d.Len())
	}
	got, e := d.Get(principal("b@R"))
	c, f := d.Canonical(principal("b@R"))
	if !entry.Equal(got, a) || !name.Equal(c, a.Name) || e != api.OK || f != api.OK {
		t.Error(got, c, e, f)
	}
	got.Aliases[0].Parts[0] = "changed"
	a.Name.Parts[0] = "changed"
	if got, e := d.Get(principal("a@R")); e != api.OK || !entry.Equal(got, named("a@R", "b@R")) {
		t.Error("shared", e)
	}
	for _, p := range []api.Principal{principal("x@R"), principal("a@S"), {}, {Realm: "R"}} {
		_, e := d.Get(p)
		c, f := d.Canonical(p)
		if e != api.ErrNone || f != api.ErrNone || c.Realm != "" || d.Remove(p) != api.ErrNone || d.Touch(p, 0, 0, 0) != api.ErrNone {
			t.Error(p, e, f)
		}
	}
	expect(t, "replace", d.Put(named("a@R", "c@R")), api.OK)
	_, e = d.Get(principal("b@R"))
	expect(t, "old alias", e, api.ErrNone)
	expect(t, "put b", d.Put(named("b@R")), api.OK)
	expect(t, "touch", d.Touch(principal("a@R"), 65535, 1<<40, 5), api.OK)
	for i, x := range [][3]int{{65536, 0, 0}, {-1, 0, 0}, {0, -1, 0}, {0, 1<<40 + 1, 0}, {0, 0, -1}, {0, 0, 1<<40 + 1}} {
		if d.Touch(principal("a@R"), x[0], x[1], x[2]) != api.ErrArg || d.Touch(principal("zz@R"), x[0], x[1], x[2]) != api.ErrArg {
			t.Error(i)
		}
	}
	want := named("a@R", "c@R")
	want.Fails, want.LastFail, want.LastSuccess = 65535, 1<<40, 5
	if got, _ := d.Get(principal("c@R")); !entry.Equal(got, want) || d.Serial() != 4 {
		t.Error(got, d.Serial())
	}
	expect(t, "remove", d.Remove(principal("a@R")), api.OK)
	for _, s := range []string{"a@R", "c@R"} {
		_, e := d.Get(principal(s))
		expect(t, s, e, api.ErrNone)
	}
	if d.Len() != 1 || d.Serial() != 5 {
		t.Error(d.Len(), d.Serial())
	}
}

func TestPolicies(t *testing.T) {
	d := newDatabase(t)
	with := named("a@R")
	with.Policy = "staff"
	expect(t, "put", d.Put(with), api.ErrNone)
	expect(t, "policy", d.PutPolicy(staff("staff")), api.OK)
	expect(t, "invalid", d.PutPolicy(api.Policy{}), api.ErrArg)
	expect(t, "put", d.Put(with), api.OK)
	expect(t, "remove", d.RemovePolicy("staff"), api.ErrBusy)
	expect(t, "remove", d.RemovePolicy("x"), api.ErrNone)
	longer := staff("staff")
	longer.Length = 9
	expect(t, "replace", d.PutPolicy(longer), api.OK)
	if p, e := d.Policy("staff"); p != longer || e != api.OK {
		t.Error(p, e)
	}
	if p, e := d.Policy("x"); p != (api.Policy{}) || e != api.ErrNone {
		t.Error(p, e)
	}
	both := named("b@R", "a@R")
	both.Policy = "x"
	expect(t, "none before busy", d.Put(both), api.ErrNone)
	expect(t, "without", d.Put(named("a@R")), api.OK)
	expect(t, "remove", d.RemovePolicy("staff"), api.OK)
	expect(t, "gone", d.RemovePolicy("staff"), api.ErrNone)
	if d.Serial() != 5 {
		t.Error(d.Serial())
	}
	for i := range database.MaxPolicies {
		expect(t, "fill", d.PutPolicy(staff("p"+strconv.Itoa(i))), api.OK)
	}
	expect(t, "full", d.PutPolicy(staff("more")), api.ErrFull)
	expect(t, "again", d.PutPolicy(staff("p3")), api.OK)
}

func TestFull(t *testing.T) {
	d := newDatabase(t)
	for i := range database.MaxEntries {
		if e := d.Put(named("n" + strconv.Itoa(i) + "@R")); e != api.OK {
			t.Fatal(i, e)
		}
	}
	expect(t, "full", d.Put(named("more@R")), api.ErrFull)
	expect(t, "busy", d.Put(named("more@R", "n1@R")), api.ErrBusy)
	expect(t, "again", d.Put(named("n7@R", "more@R")), api.OK)
	if l, e := database.Load(d.Dump()); e != api.OK || !l.Equal(d) || l.Len() != 4096 {
		t.Error(e)
	}
}

func TestNil(t *testing.T) {
	for _, d := range []*database.Database{nil, {}} {
		_, e1 := d.Get(api.Principal{})
		_, e2 := d.Canonical(api.Principal{})
		_, e3 := d.Policy("")
		for i, e := range []api.Errno{e1, e2, e3, d.Put(api.Entry{}), d.Remove(api.Principal{}), d.Touch(api.Principal{}, -1, 0, 0), d.PutPolicy(api.Policy{}), d.RemovePolicy("")} {
			if e != api.ErrNil {
				t.Error(i, e)
			}
		}
		for range d.Entries() {
			t.Error("entries")
		}
		for range d.Policies() {
			t.Error("policies")
		}
		if d.Realm() != "" || d.Serial() != 0 || d.Len() != 0 || len(d.Dump()) != 0 || d.Copy() != nil || !d.Equal(nil) || !d.Equal(&database.Database{}) || d.Equal(newDatabase(t)) || newDatabase(t).Equal(d) {
			t.Error("zero")
		}
	}
}

// sample returns a database with entries and policies.
func sample(t *testing.T) *database.Database {
	d := newDatabase(t)
	d.PutPolicy(staff("z"))
	d.PutPolicy(staff("B"))
	for _, e := range []api.Entry{named("b/c@R"), named("b@R", "x@R"), named("a@R"), named("B@R")} {
		e.Policy = "z"
		d.Put(e)
	}
	return d
}

func TestIterators(t *testing.T) {
	d := sample(t)
	entries, policies := d.Entries(), d.Policies()
	d.Remove(principal("a@R"))
	d.PutPolicy(staff("A"))
	d.Touch(principal("b@R"), 9, 9, 9)
	for range 2 {
		s := ""
		for i, e := range entries {
			text, _ := name.Text(e.Name)
			s += strconv.Itoa(i) + text + " "
			if e.Fails != 0 {
				t.Error(e.Fails)
			}
			e.Name.Parts[0] = "changed"
		}
		for i, p := range policies {
			s += strconv.Itoa(i) + p.Name + " "
		}
		if s != "0B@R 1a@R 2b@R 3b/c@R 0B 1z " {
			t.Error(s)
		}
	}
	for i := range entries {
		if i != 0 {
			t.Error(i)
		}
		break
	}
	for range policies {
		break
	}
}

func TestDump(t *testing.T) {
	d := sample(t)
	want := append([]byte{1, 'R'}, binary.BigEndian.AppendUint64(nil, 6)...)
	add := func(b []byte) {
		want = append(binary.BigEndian.AppendUint32(want, uint32(len(b))), b...)
	}
	want = binary.BigEndian.AppendUint32(want, 2)
	for _, p := range []string{"B", "z"} {
		s, _ := policy.Text(staff(p))
		add([]byte(s))
	}
	want = binary.BigEndian.AppendUint32(want, 4)
	for _, e := range []api.Entry{named("B@R"), named("a@R"), named("b@R", "x@R"), named("b/c@R")} {
		e.Policy = "z"
		b, _ := entry.Encode(e)
		add(b)
	}
	if !bytes.Equal(d.Dump(), want) {
		t.Error(d.Dump())
	}
	l, e := database.Load(want)
	if e != api.OK || !l.Equal(d) || l.Serial() != 6 || l.Len() != 4 || l.Realm() != "R" {
		t.Error(e)
	}
	_, e = l.Get(principal("x@R"))
	expect(t, "alias", e, api.OK)
	if b := newDatabase(t).Dump(); !bytes.Equal(b, append([]byte{1, 'R'}, make([]byte, 16)...)) {
		t.Error(b)
	}
	for i := range want {
		if l, e := database.Load(want[:i]); l != nil || e != api.ErrFormat {
			t.Error(i, e)
		}
		x := bytes.Clone(want)
		x[i] ^= 0x80
		if l, e := database.Load(x); e == api.OK && !bytes.Equal(l.Dump(), x) {
			t.Error(i)
		}
	}
	top := bytes.Clone(want)
	copy(top[2:], []byte{0x3f, 255, 255, 255, 255, 255, 255, 255})
	l, e = database.Load(top)
	if e != api.OK || l.Serial() != 1<<62-1 {
		t.Fatal(e)
	}
	l.PutPolicy(staff("z"))
	if l.Serial() != 0 {
		t.Error(l.Serial())
	}
	bad := [][]byte{append(bytes.Clone(want), 0)}
	for _, serial := range [][]byte{{0x40, 0, 0, 0, 0, 0, 0, 0}, {255, 255, 255, 255, 255, 255, 255, 255}} {
		x := bytes.Clone(want)
		copy(x[2:], serial)
		bad = append(bad, x)
	}
	bad = append(bad, bytes.Replace(want, []byte("B length"), []byte("~ length"), 1), bytes.Replace(want, []byte("z length"), []byte("A length"), 1), bytes.Replace(want, []byte("\x1b\x01x"), []byte("\x1b\x01a"), 1), append([]byte{1, 'S'}, want[2:]...), append([]byte{1, 'r'}, want[2:]...))
	for i, x := range bad {
		if l, e := database.Load(x); l != nil || e != api.ErrFormat {
			t.Error(i, e)
		}
	}
}

func TestCopyEqual(t *testing.T) {
	d := sample(t)
	c := d.Copy()
	if !c.Equal(d) || !d.Equal(c) {
		t.Error("equal")
	}
	c.Remove(principal("a@R"))
	d.Touch(principal("b@R"), 1, 1, 1)
	c.PutPolicy(staff("new"))
	_, e := d.Get(principal("a@R"))
	x, f := c.Get(principal("b@R"))
	_, g := d.Policy("new")
	if e != api.OK || f != api.OK || x.Fails != 0 || g != api.ErrNone || c.Equal(d) {
		t.Error(e, f, g)
	}
}
