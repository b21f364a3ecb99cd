package keytab_test

import (
	"bytes"
	"slices"
	"strconv"
	"testing"

	"watchword/api"
	"watchword/der"
	"watchword/keytab"
	"watchword/name"
	"watchword/profile"
)

func principal(s string) api.Principal {
	p, e := name.Parse(s)
	if e != api.OK {
		panic(s)
	}
	return p
}

// key returns a key of a profile with a version.
func key(p, version int, b byte) api.Key {
	return api.Key{Profile: p, Version: version, Bytes: bytes.Repeat([]byte{b}, 16*p)}
}

func entry(service string, created int, k api.Key) api.TableKey {
	return api.TableKey{Service: principal(service), Created: created, Key: k}
}

func filled(t *testing.T, l ...api.TableKey) *keytab.Table {
	t.Helper()
	x := &keytab.Table{}
	for _, k := range l {
		if e := x.Add(k); e != api.OK {
			t.Fatal(e)
		}
	}
	return x
}

func example(t *testing.T) *keytab.Table {
	return filled(t, entry("host/b@R", 3, key(1, 9, 7)), entry("host/a@R", 9, key(1, 2, 2)), entry("host/a@R", 9, key(2, 2, 3)), entry("host/a@R", 5, key(1, 1, 1)), entry("host/a@R", 6, key(2, 3, 4)))
}

func TestAdd(t *testing.T) {
	x := filled(t, entry("host/a@R", 5, key(1, 1, 1)))
	for i, v := range []struct {
		k    api.TableKey
		want api.Errno
	}{{entry("host/a@R", 9, key(1, 2, 2)), api.OK}, {entry("host/a@R", 9, key(1, 2, 1)), api.ErrBusy}, {entry("host/a@R", -1, key(1, 3, 1)), api.ErrArg}, {entry("host/a@R", 1<<40+1, key(1, 3, 1)), api.ErrArg}, {entry("host/a@R", 1, key(1, 0, 1)), api.ErrArg}, {entry("host/a@R", 1, key(1, 65536, 1)), api.ErrArg}, {entry("host/a@R", 1, key(3, 1, 1)), api.ErrArg}, {api.TableKey{Key: key(1, 1, 1)}, api.ErrArg}, {entry("host/a@R", 1<<40, key(1, 65535, 1)), api.OK}} {
		if e := x.Add(v.k); e != v.want {
			t.Error(i, e)
		}
	}
	k := entry("s@R", 1, key(1, 1, 1))
	x.Add(k)
	k.Key.Bytes[0], k.Service.Parts[0] = 9, "x"
	y, _ := x.Key(principal("s@R"), 1, 1)
	y.Bytes[0] = 8
	if y, e := x.Key(principal("s@R"), 1, 1); e != api.OK || !profile.Equal(y, key(1, 1, 1)) {
		t.Error("shared", e)
	}
	full := &keytab.Table{}
	for i := range keytab.MaxEntries {
		if e := full.Add(entry("s@R", 1, key(1, i+1, 1))); e != api.OK {
			t.Fatal(i, e)
		}
	}
	if full.Add(entry("s@R", 1, key(2, 1, 1))) != api.ErrFull || full.Add(entry("s@R", 1, key(1, 5, 1))) != api.ErrBusy {
		t.Error("full")
	}
	if d, e := keytab.Decode(full.Encode()); e != api.OK || !bytes.Equal(d.Encode(), full.Encode()) {
		t.Error(e)
	}
	if n, e := full.Merge(filled(t, entry("t@R", 1, key(1, 1, 1)))); n != 0 || e != api.ErrFull {
		t.Error(n, e)
	}
	if n, e := full.Merge(filled(t, entry("t@R", 1, key(1, 1, 1)), entry("s@R", 2, key(1, 1, 1)))); n != 0 || e != api.ErrCheck {
		t.Error(n, e)
	}
}

func TestKey(t *testing.T) {
	x := example(t)
	a := principal("host/a@R")
	for i, v := range []struct {
		p               api.Principal
		version, number int
		want            api.Key
		e               api.Errno
	}{{a, 0, 0, key(2, 3, 4), api.OK}, {a, 0, 1, key(1, 2, 2), api.OK}, {a, 0, 2, key(2, 3, 4), api.OK}, {a, 2, 0, key(1, 2, 2), api.OK}, {a, 2, 2, key(2, 2, 3), api.OK}, {a, 1, 2, api.Key{}, api.ErrNone}, {a, 4, 0, api.Key{}, api.ErrNone}, {principal("host/c@R"), 0, 0, api.Key{}, api.ErrNone}, {principal("host/b@R"), 9, 1, key(1, 9, 7), api.OK}, {api.Principal{}, 0, 0, api.Key{}, api.ErrArg}, {a, -1, 0, api.Key{}, api.ErrArg}, {a, 65536, 0, api.Key{}, api.ErrArg}, {a, 0, 3, api.Key{}, api.ErrArg}, {a, 0, -1, api.Key{}, api.ErrArg}} {
		if k, e := x.Key(v.p, v.version, v.number); !profile.Equal(k, v.want) || e != v.e {
			t.Error(i, k, e)
		}
	}
	s, _ := profile.Seal(key(1, 2, 2), 5, bytes.Repeat([]byte{1}, 16), []byte("plain"))
	any := s
	any.Version = 0
	other := s
	other.Version = 1
	none := s
	none.Version = 7
	for i, v := range []struct {
		s    api.Sealed
		u    api.Usage
		want api.Errno
	}{{s, 5, api.OK}, {any, 5, api.OK}, {other, 5, api.ErrCheck}, {none, 0, api.ErrNone}, {s, 6, api.ErrCheck}, {s, 0, api.ErrArg}, {api.Sealed{Profile: 1, Version: 2}, 5, api.ErrShort}, {api.Sealed{}, 5, api.ErrArg}, {api.Sealed{Profile: 3}, 5, api.ErrArg}, {api.Sealed{Profile: 1, Version: -1}, 5, api.ErrArg}} {
		b, e := x.Open(a, v.u, v.s)
		if e != v.want || e == api.OK && string(b) != "plain" || e != api.OK && len(b) != 0 {
			t.Error(i, e)
		}
	}
	if _, e := x.Open(api.Principal{}, 5, s); e != api.ErrArg {
		t.Error(e)
	}
}

func TestRemove(t *testing.T) {
	a := principal("host/a@R")
	for i, v := range []struct {
		version       int
		prune, remove int
		e, f          api.Errno
	}{{2, 1, 2, api.OK, api.OK}, {1, 0, 1, api.OK, api.OK}, {0, 0, 4, api.ErrArg, api.OK}, {9, 4, 0, api.OK, api.ErrNone}, {-1, 0, 0, api.ErrArg, api.ErrArg}, {65536, 0, 0, api.ErrArg, api.ErrArg}, {65535, 4, 0, api.OK, api.ErrNone}} {
		x, y := example(t), example(t)
		n, e := x.Prune(a, v.version)
		m, f := y.Remove(a, v.version)
		if n != v.prune || m != v.remove || e != v.e || f != v.f || len(x.Lines()) != 5-n || len(y.Lines()) != 5-m {
			t.Error(i, n, m, e, f)
		}
	}
	x := example(t)
	n, e := x.Prune(principal("z@R"), 5)
	_, f := x.Remove(principal("z@R"), 0)
	_, g := x.Prune(api.Principal{}, 1)
	_, h := x.Remove(api.Principal{}, 1)
	if n != 0 || e != api.OK || f != api.ErrNone || g != api.ErrArg || h != api.ErrArg {
		t.Error(n, e, f, g, h)
	}
}

func TestMerge(t *testing.T) {
	x, y := example(t), filled(t, entry("host/a@R", 5, key(1, 1, 1)), entry("host/z@R", 5, key(1, 1, 1)), entry("host/a@R", 5, key(1, 8, 1)))
	before := y.Encode()
	if n, e := x.Merge(y); n != 2 || e != api.OK || len(x.Lines()) != 7 || !bytes.Equal(y.Encode(), before) {
		t.Error(n, e)
	}
	for i, k := range []api.TableKey{entry("host/a@R", 6, key(1, 1, 1)), entry("host/a@R", 5, key(1, 1, 9))} {
		x := example(t)
		if n, e := x.Merge(filled(t, entry("new@R", 1, key(1, 1, 1)), k)); n != 0 || e != api.ErrCheck || len(x.Lines()) != 5 {
			t.Error(i, n, e)
		}
	}
	full, rest := &keytab.Table{}, filled(t, entry("z@R", 1, key(1, 1, 1)), entry("z@R", 1, key(1, 2, 1)))
	for i := range keytab.MaxEntries - 2 {
		full.Add(entry("a@R", 1, key(1, i+1, 1)))
	}
	if n, e := full.Merge(rest); n != 2 || e != api.OK || len(full.Lines()) != keytab.MaxEntries {
		t.Error(n, e)
	}
	if n, e := full.Merge(filled(t, entry("z@R", 1, key(1, 1, 1)), entry("z@R", 1, key(1, 3, 1)))); n != 0 || e != api.ErrFull {
		t.Error(n, e)
	}
	if n, e := x.Merge(x); n != 0 || e != api.OK {
		t.Error(n, e)
	}
}

func TestIterators(t *testing.T) {
	x := example(t)
	want := []string{"1 1 5 host/a@R", "2 1 9 host/a@R", "2 2 9 host/a@R", "3 2 6 host/a@R", "9 1 3 host/b@R"}
	if !slices.Equal(x.Lines(), want) {
		t.Error(x.Lines())
	}
	entries, services := x.Entries(), x.Services()
	x.Remove(principal("host/a@R"), 0)
	for range 2 {
		var l []string
		for i, k := range entries {
			text, _ := name.Text(k.Service)
			l = append(l, strconv.Itoa(k.Key.Version)+" "+strconv.Itoa(k.Key.Profile)+" "+strconv.Itoa(k.Created)+" "+text)
			if i != len(l)-1 {
				t.Error(i)
			}
			k.Service.Parts[0], k.Key.Bytes[0] = "x", 99
		}
		if !slices.Equal(l, want) {
			t.Error(l)
		}
		s := ""
		for p := range services {
			s += p.Parts[1]
			p.Parts[1] = "x"
		}
		if s != "ab" {
			t.Error(s)
		}
	}
	for range entries {
		break
	}
	for range services {
		break
	}
}

func TestEncode(t *testing.T) {
	x := example(t)
	element := func(k api.TableKey) []byte {
		b, _ := name.Encode(k.Service)
		return der.Sequence(b, der.Time(k.Created), der.Key(k.Key))
	}
	var all [][]byte
	for _, k := range x.Entries() {
		all = append(all, element(k))
	}
	good := der.Application(23, der.Sequence(all...))
	d, e := keytab.Decode(good)
	if !bytes.Equal(x.Encode(), good) || e != api.OK || !bytes.Equal(d.Encode(), good) {
		t.Error(e)
	}
	if !bytes.Equal((&keytab.Table{}).Encode(), []byte{0x77, 2, 0x30, 0}) {
		t.Error("empty")
	}
	service, _ := name.Encode(principal("s@R"))
	for i, b := range [][]byte{nil, append(bytes.Clone(good), 0), good[:len(good)-1], der.Application(24, der.Sequence()), der.Application(23, append(der.Sequence(), 1, 1, 0)), der.Application(23, der.Sequence(all[1], all[0])), der.Application(23, der.Sequence(all[0], all[0])), der.Application(23, der.Sequence(der.Sequence(service, der.Time(1), der.Key(key(1, 0, 1))))), der.Application(23, der.Sequence(der.Sequence(service, der.Time(1), der.Key(key(1, 1, 1)), der.Bool(true)))), der.Application(23, der.Sequence(der.Sequence(service, der.Time(1))))} {
		if d, e := keytab.Decode(b); d != nil || e != api.ErrFormat {
			t.Error(i, e)
		}
	}
	c := x.Copy()
	c.Remove(principal("host/a@R"), 0)
	if len(x.Lines()) != 5 || len(c.Lines()) != 1 {
		t.Error("copy")
	}
}

func TestNil(t *testing.T) {
	var x *keytab.Table
	_, e1 := x.Remove(api.Principal{}, -1)
	_, e2 := x.Prune(api.Principal{}, -1)
	_, e3 := x.Key(api.Principal{}, -1, 0)
	_, e4 := x.Open(api.Principal{}, 0, api.Sealed{})
	_, e5 := x.Merge(&keytab.Table{})
	_, e6 := (&keytab.Table{}).Merge(nil)
	for i, e := range []api.Errno{e1, e2, e3, e4, e5, e6, x.Add(api.TableKey{})} {
		if e != api.ErrNil {
			t.Error(i, e)
		}
	}
	for range x.Entries() {
		t.Error("entries")
	}
	for range x.Services() {
		t.Error("services")
	}
	if len(x.Lines())+len(x.Encode()) != 0 || x.Copy() != nil {
		t.Error("nil")
	}
}
