package master_test

import (
	"bytes"
	"slices"
	"testing"

	"watchword/api"
	"watchword/entry"
	"watchword/master"
	"watchword/name"
	"watchword/profile"
)

func principal(s string) api.Principal {
	p, e := name.Parse(s)
	if e != api.OK {
		panic(s)
	}
	return p
}

func fill(n int, b byte) []byte { return bytes.Repeat([]byte{b}, n) }

func key(b byte, version int) api.Key {
	return api.Key{Profile: 1, Version: version, Bytes: fill(16, b)}
}

// plain returns an entry with three keys.
func plain() api.Entry {
	return api.Entry{Name: principal("a@R"), Keys: []api.KeySet{
		{Version: 2, Keys: []api.Key{{Profile: 1, Version: 2, Bytes: fill(16, 5)}, {Profile: 2, Version: 2, Bytes: fill(32, 2)}}, Created: 20},
		{Version: 1, Keys: []api.Key{{Profile: 1, Version: 1, Bytes: fill(16, 1)}}, Salt: "Ra", Iterations: 4, Created: 10},
	}}
}

func confounders() [][]byte { return [][]byte{fill(16, 3), fill(16, 4), fill(16, 5)} }

func ring(t *testing.T, keys ...api.Key) *master.Ring {
	t.Helper()
	r := master.New()
	for _, k := range keys {
		if e := r.Add(k); e != api.OK {
			t.Fatal(e)
		}
	}
	return r
}

func TestRing(t *testing.T) {
	r := master.New()
	if v, e := r.Current(); v != 0 || e != api.ErrNone {
		t.Error(e)
	}
	if r.Remove(1) != api.ErrNone || r.Add(key(9, 0)) != api.ErrArg || r.Add(api.Key{Profile: 3, Version: 1}) != api.ErrArg || r.Add(key(9, 1)) != api.OK || r.Add(key(9, 1)) != api.ErrBusy || r.Add(key(8, 3)) != api.OK || r.Add(key(7, 2)) != api.ErrBusy || r.Add(api.Key{Version: 1}) != api.ErrArg {
		t.Error("add")
	}
	if v, e := r.Current(); v != 3 || e != api.OK {
		t.Error(v, e)
	}
	versions := r.Versions()
	c := r.Copy()
	if r.Remove(3) != api.ErrState || r.Remove(2) != api.ErrNone || r.Remove(1) != api.OK || r.Remove(1) != api.ErrNone || r.Remove(3) != api.OK {
		t.Error("remove")
	}
	for range 2 {
		if got := slices.Collect(versions); !slices.Equal(got, []int{3, 1}) {
			t.Error(got)
		}
	}
	for v := range versions {
		if v != 3 {
			t.Error(v)
		}
		break
	}
	if got := slices.Collect(c.Versions()); !slices.Equal(got, []int{3, 1}) {
		t.Error(got)
	}
	for i := range 6 {
		if e := c.Add(key(1, 10+i)); e != api.OK {
			t.Error(e)
		}
	}
	if c.Add(key(1, 20)) != api.ErrFull || c.Add(key(1, 15)) != api.ErrBusy || len(slices.Collect(r.Versions())) != 0 {
		t.Error("full")
	}
}

func TestNil(t *testing.T) {
	for _, r := range []*master.Ring{nil, {}} {
		v, e1 := r.Current()
		_, e2 := r.Wrap(api.Entry{}, nil)
		_, e3 := r.Unwrap(api.Entry{})
		_, e4 := r.Rewrap(api.Entry{}, nil)
		_, e5 := r.Key(api.Entry{}, 0, 0)
		for i, e := range []api.Errno{e1, e2, e3, e4, e5, r.Add(api.Key{}), r.Remove(0)} {
			if e != api.ErrNil {
				t.Error(i, e)
			}
		}
		if v != 0 || r.Copy() != nil || len(slices.Collect(r.Versions())) != 0 {
			t.Error("copy")
		}
	}
}

func TestWrap(t *testing.T) {
	m := key(9, 1)
	r := ring(t, m)
	given := plain()
	w, e := r.Wrap(given, confounders())
	if e != api.OK || w.Master != 1 || !entry.Valid(w) || !entry.Equal(given, plain()) {
		t.Fatal(e, w.Master)
	}
	i := 0
	for s, set := range w.Keys {
		for k, x := range set.Keys {
			sealed, _ := profile.Seal(m, 22, confounders()[i], plain().Keys[s].Keys[k].Bytes)
			if !bytes.Equal(sealed.Bytes, x.Bytes) || x.Profile != plain().Keys[s].Keys[k].Profile || x.Version != set.Version {
				t.Error(s, k, x)
			}
			i++
		}
	}
	u, e := r.Unwrap(w)
	if e != api.OK || !entry.Equal(u, plain()) {
		t.Error(e, u)
	}
	r.Add(api.Key{Profile: 2, Version: 7, Bytes: fill(32, 6)})
	v, e := r.Rewrap(w, confounders())
	x, f := r.Unwrap(v)
	if e != api.OK || f != api.OK || v.Master != 7 || len(v.Keys[1].Keys[0].Bytes) != 16+48 || !entry.Equal(x, plain()) {
		t.Error(e, f, v.Master)
	}
	if u, e = r.Unwrap(w); e != api.OK || !entry.Equal(u, plain()) {
		t.Error(e)
	}
	for version := range 4 {
		for number := range 4 {
			want, g := entry.Find(plain(), version, number)
			for _, z := range []api.Entry{plain(), w, v} {
				if k, e := r.Key(z, version, number); e != g || !profile.Equal(k, want) {
					t.Error(version, number, k, e)
				}
			}
		}
	}
	if _, e := r.Wrap(w, confounders()); e != api.ErrState {
		t.Error(e)
	}
	_, e1 := r.Unwrap(plain())
	_, e2 := r.Rewrap(plain(), nil)
	if e1 != api.ErrState || e2 != api.ErrState {
		t.Error(e1, e2)
	}
}

func TestErrors(t *testing.T) {
	r, none, other := ring(t, key(9, 1)), master.New(), ring(t, key(8, 1))
	w, _ := r.Wrap(plain(), confounders())
	for i, c := range [][][]byte{nil, confounders()[:2], append(confounders(), fill(16, 1)), {fill(16, 1), fill(16, 1), fill(15, 1)}, {nil, nil, nil}} {
		_, e := r.Wrap(plain(), c)
		x, f := r.Rewrap(w, c)
		_, g := none.Wrap(plain(), c)
		_, h := other.Rewrap(w, c)
		if e != api.ErrArg || f != api.ErrArg || g != api.ErrNone || h != api.ErrCheck || x.Master != 0 {
			t.Error(i, e, f, g, h)
		}
	}
	_, e1 := none.Unwrap(w)
	_, e2 := none.Rewrap(w, confounders())
	_, e3 := none.Key(w, 0, 0)
	k, e4 := none.Key(plain(), 0, 0)
	_, e5 := other.Unwrap(w)
	_, e6 := other.Key(w, 0, 0)
	_, e7 := other.Key(w, 9, 0)
	if e1 != api.ErrNone || e2 != api.ErrNone || e3 != api.ErrNone || e4 != api.OK || len(k.Bytes) != 16 || e5 != api.ErrCheck || e6 != api.ErrCheck || e7 != api.ErrNone {
		t.Error(e1, e2, e3, e4, e5, e6, e7)
	}
	short := entry.Copy(w)
	short.Keys[1].Keys[0].Bytes = []byte{1}
	_, e1 = r.Unwrap(short)
	_, e2 = r.Key(short, 1, 0)
	k, e3 = r.Key(short, 2, 0)
	if e1 != api.ErrShort || e2 != api.ErrShort || e3 != api.OK || len(k.Bytes) != 16 {
		t.Error(e1, e2, e3)
	}
	odd := entry.Copy(w)
	s, _ := profile.Seal(key(9, 1), 22, fill(16, 1), fill(15, 1))
	odd.Keys[0].Keys[0].Bytes = s.Bytes
	_, e1 = r.Unwrap(odd)
	_, e2 = r.Rewrap(odd, nil)
	_, e3 = r.Key(odd, 0, 0)
	if e1 != api.ErrFormat || e2 != api.ErrFormat || e3 != api.ErrFormat {
		t.Error(e1, e2, e3)
	}
	bad := plain()
	bad.Keys[0].Version = 0
	_, e1 = none.Wrap(bad, nil)
	_, e2 = none.Unwrap(bad)
	_, e3 = none.Rewrap(bad, nil)
	_, e4 = none.Key(bad, 0, 0)
	_, e5 = none.Key(w, -1, 0)
	_, e6 = none.Key(w, 0, -1)
	for i, e := range []api.Errno{e1, e2, e3, e4, e5, e6} {
		if e != api.ErrArg {
			t.Error(i, e)
		}
	}
	empty := api.Entry{Name: principal("a@R")}
	x, e1 := r.Wrap(empty, nil)
	y, e2 := r.Unwrap(x)
	if e1 != api.OK || e2 != api.OK || x.Master != 1 || !entry.Equal(y, empty) {
		t.Error(e1, e2)
	}
}
