package update_test

import (
	"bytes"
	"crypto/sha256"
	"encoding/binary"
	"strings"
	"testing"

	"watchword/api"
	"watchword/database"
	"watchword/der"
	"watchword/entry"
	"watchword/name"
	"watchword/policy"
	"watchword/update"
)

func principal(s string) api.Principal {
	p, e := name.Parse(s)
	if e != api.OK {
		panic(s)
	}
	return p
}

func rules(name string) api.Policy { return api.Policy{Name: name, Length: 1, Classes: 1} }

func one() api.Entry { return api.Entry{Name: principal("a@R"), Policy: "p1"} }

// kinds returns an update of each kind.
func kinds() []api.Update {
	return []api.Update{
		{Index: 1, Term: 1, Time: 10, Kind: api.UpdatePut, Entry: one()},
		{Index: 1 << 40, Term: 1 << 31, Time: 1 << 40, Kind: api.UpdateRemove, Name: principal("a@R")},
		{Index: 3, Term: 1, Time: 0, Kind: api.UpdatePolicy, Policy: rules("p1")},
		{Index: 4, Term: 1, Time: 10, Kind: api.UpdateRemovePolicy, PolicyName: "!~"},
		{Index: 5, Term: 1, Time: 10, Kind: api.UpdateTouch, Name: principal("a@R"), Fails: 65535, LastFail: 1 << 40, LastSuccess: 3},
	}
}

func TestValues(t *testing.T) {
	changes := []func(*api.Update){
		func(u *api.Update) { u.Index = 0 }, func(u *api.Update) { u.Index = 1<<40 + 1 }, func(u *api.Update) { u.Term = 0 }, func(u *api.Update) { u.Term = 1<<31 + 1 }, func(u *api.Update) { u.Time = -1 }, func(u *api.Update) { u.Time = 1<<40 + 1 }, func(u *api.Update) { u.Kind = 0 }, func(u *api.Update) { u.Kind = 6 },
		func(u *api.Update) { u.Name = principal("b@R"); u.Entry = api.Entry{Name: principal("b@R")} }, func(u *api.Update) { u.Name.Realm += "!" }, func(u *api.Update) { u.Entry.Fails++; u.Entry.Name.Realm = "" }, func(u *api.Update) { u.Policy.Lock = -1 }, func(u *api.Update) { u.PolicyName += " " }, func(u *api.Update) { u.Fails += 65536 }, func(u *api.Update) { u.LastFail = -1 }, func(u *api.Update) { u.LastSuccess = -1 }, func(u *api.Update) { u.PolicyName = strings.Repeat("p", 33) },
	}
	for i, u := range kinds() {
		b, e := update.Encode(u)
		d, f := update.Decode(b)
		if !update.Valid(u) || e != api.OK || f != api.OK || !update.Equal(u, d) || !update.Equal(u, update.Copy(u)) {
			t.Error(i, e, f)
		}
		for j, other := range kinds() {
			if update.Equal(u, other) != (i == j) {
				t.Error(i, j)
			}
		}
		for j, change := range changes {
			v := update.Copy(u)
			change(&v)
			b, e := update.Encode(v)
			if update.Valid(v) || e != api.ErrArg || len(b) != 0 || update.Equal(u, v) || !update.Equal(v, update.Copy(v)) {
				t.Error(i, j, e)
			}
			x, _ := database.New("R")
			if update.Apply(x, v) != api.ErrArg {
				t.Error(i, j)
			}
		}
		for j := range b {
			if _, e := update.Decode(b[:j]); e != api.ErrFormat {
				t.Error(i, j, e)
			}
			x := bytes.Clone(b)
			x[j] ^= 0x21
			if v, e := update.Decode(x); e == api.OK {
				if again, _ := update.Encode(v); !bytes.Equal(again, x) {
					t.Error(i, j)
				}
			} else if e != api.ErrFormat || v.Index != 0 {
				t.Error(i, j, e)
			}
		}
		if _, e := update.Decode(append(b, 0)); e != api.ErrFormat {
			t.Error(i, e)
		}
	}
	u := kinds()[0]
	c := update.Copy(u)
	c.Entry.Name.Parts[0] = "x"
	if !update.Equal(u, kinds()[0]) {
		t.Error("shared")
	}
}

func elements(l ...[]byte) []byte {
	var all [][]byte
	for i, e := range l {
		all = append(all, der.Tagged(i, e))
	}
	return der.Sequence(all...)
}

func TestEncoding(t *testing.T) {
	head := func(u api.Update, rest ...[]byte) []byte {
		return elements(append([][]byte{der.Integer(u.Index), der.Integer(u.Term), der.Time(u.Time), der.Integer(int(u.Kind))}, rest...)...)
	}
	l := kinds()
	e, _ := entry.Encode(one())
	n, _ := name.Encode(principal("a@R"))
	s, _ := policy.Text(rules("p1"))
	want := [][]byte{head(l[0], der.Octets(e)), head(l[1], n), head(l[2], der.String(s)), head(l[3], der.String("!~")), head(l[4], n, der.Integer(65535), der.Time(1<<40), der.Time(3))}
	for i, u := range l {
		if b, _ := update.Encode(u); !bytes.Equal(b, want[i]) {
			t.Error(i, b)
		}
	}
	for i, b := range [][]byte{head(l[0], n), head(l[0]), head(l[1], n, der.Integer(0)), head(l[2], der.String("p1")), head(l[4], n), head(l[4], n, der.Integer(1), der.Time(1)), head(l[4], n, der.Integer(1), der.Time(1), der.Time(1), der.Bool(true)), head(l[3], der.String("")), head(l[0], der.Octets(append(bytes.Clone(e), 0)))} {
		if _, e := update.Decode(b); e != api.ErrFormat {
			t.Error(i, e)
		}
	}
}

// TestLeast checks the least values of the parts of updates.
func TestLeast(t *testing.T) {
	for i, u := range []api.Update{{Index: 1, Term: 1, Kind: api.UpdateTouch, Name: principal("a@R")}, {Index: 1, Term: 1, Kind: api.UpdateRemovePolicy, PolicyName: "!"}, {Index: 1, Term: 1, Kind: api.UpdateRemovePolicy, PolicyName: strings.Repeat("~", 32)}} {
		b, e := update.Encode(u)
		v, f := update.Decode(b)
		if e != api.OK || f != api.OK || !update.Valid(u) || !update.Equal(u, v) {
			t.Error(i, e, f)
		}
	}
	u := api.Update{Index: 1, Term: 1, Kind: api.UpdateRemovePolicy}
	if b, e := update.Encode(u); update.Valid(u) || e != api.ErrArg || len(b) != 0 {
		t.Error(e)
	}
}

// steps returns updates that follow each other.
func steps() []api.Update {
	touch := api.Update{Index: 3, Term: 1, Time: 10, Kind: api.UpdateTouch, Name: principal("a@R"), Fails: 2, LastFail: 3, LastSuccess: 4}
	free := one()
	free.Policy = ""
	return []api.Update{
		{Index: 1, Term: 1, Time: 10, Kind: api.UpdatePolicy, Policy: rules("p1")}, {Index: 2, Term: 1, Time: 10, Kind: api.UpdatePut, Entry: one()}, touch,
		{Index: 4, Term: 3, Time: 11, Kind: api.UpdatePut, Entry: free}, {Index: 5, Term: 3, Time: 12, Kind: api.UpdateRemovePolicy, PolicyName: "p1"}, {Index: 6, Term: 4, Time: 12, Kind: api.UpdateRemove, Name: principal("a@R")},
	}
}

func full(t *testing.T) *update.Log {
	t.Helper()
	l, e := update.New("R")
	if e != api.OK {
		t.Fatal(e)
	}
	for i, u := range steps() {
		if e := l.Append(u); e != api.OK {
			t.Fatal(i, e)
		}
	}
	return l
}

func TestApply(t *testing.T) {
	d, _ := database.New("R")
	right, _ := database.New("R")
	calls := []func(){func() { right.PutPolicy(rules("p1")) }, func() { right.Put(one()) }, func() { right.Touch(principal("a@R"), 2, 3, 4) }, func() { e := one(); e.Policy = ""; right.Put(e) }, func() { right.RemovePolicy("p1") }, func() { right.Remove(principal("a@R")) }}
	for i, u := range steps() {
		calls[i]()
		if e := update.Apply(d, u); e != api.OK || !d.Equal(right) {
			t.Error(i, e)
		}
	}
	for i, u := range []api.Update{steps()[1], steps()[2], steps()[4], steps()[5]} {
		if e := update.Apply(d, u); e != api.ErrNone || !d.Equal(right) {
			t.Error(i, e)
		}
	}
	if update.Apply(nil, api.Update{}) != api.ErrNil || update.Apply(&database.Database{}, steps()[0]) != api.ErrNil || update.Apply(d, api.Update{}) != api.ErrArg {
		t.Error("errors")
	}
}

func TestLog(t *testing.T) {
	for _, realm := range []string{"", "r"} {
		if l, e := update.New(realm); l != nil || e != api.ErrArg {
			t.Error(realm, e)
		}
	}
	l, _ := update.New("R")
	put := steps()[1]
	put.Index = 1
	if e := l.Append(put); e != api.ErrNone || l.Len() != 0 {
		t.Error(e)
	}
	l = full(t)
	digest := sha256.Sum256([]byte("watchword log\x00R"))
	for i := 0; i <= 6; i++ {
		if i > 0 {
			b, _ := update.Encode(steps()[i-1])
			digest = sha256.Sum256(append(digest[:], b...))
			if u, e := l.At(i); e != api.OK || !update.Equal(u, steps()[i-1]) {
				t.Error(i, e)
			}
		}
		d, e := l.Digest(i)
		if !bytes.Equal(d, digest[:]) || e != api.OK {
			t.Error(i, e)
		}
		d[0]++
	}
	for _, i := range []int{0, -1, 7, 1 << 62, -1 << 63} {
		u, e := l.At(i)
		if e != api.ErrRange || u.Index != 0 {
			t.Error(i, e)
		}
		if i != 0 {
			if d, e := l.Digest(i); e != api.ErrRange || len(d) != 0 {
				t.Error(i, e)
			}
		}
	}
	next := api.Update{Index: 7, Term: 4, Time: 12, Kind: api.UpdatePolicy, Policy: rules("q")}
	for i, change := range []func(*api.Update){func(u *api.Update) { u.Index = 6 }, func(u *api.Update) { u.Index = 8 }, func(u *api.Update) { u.Term = 3 }, func(u *api.Update) { u.Time = 11 }} {
		u := next
		change(&u)
		if e := l.Append(u); e != api.ErrRange || l.Len() != 6 {
			t.Error(i, e)
		}
	}
	if e := l.Append(api.Update{Index: 9}); e != api.ErrArg {
		t.Error(e)
	}
	if l.Realm() != "R" || l.Len() != 6 || l.Database().Len() != 0 || l.Database().Serial() != 6 {
		t.Error(l.Realm(), l.Len())
	}
	d := l.Database()
	d.PutPolicy(rules("x"))
	if l.Database().Serial() != 6 {
		t.Error("shared")
	}
	c := l.Copy()
	if e := l.Append(next); e != api.OK || c.Len() != 6 {
		t.Error(e)
	}
	other := next
	other.Policy.Name = "r"
	c.Append(other)
	x, _ := l.Digest(7)
	y, _ := c.Digest(7)
	if u, _ := l.At(7); u.Policy.Name != "q" || bytes.Equal(x, y) {
		t.Error("copy")
	}
}

func TestFromTruncate(t *testing.T) {
	l := full(t)
	for start, want := range map[int]int{-5: 6, 0: 6, 1: 6, 3: 4, 6: 1, 7: 0, 1 << 62: 0, -1 << 63: 6} {
		updates := l.From(start)
		for range 2 {
			n, index := 0, max(start, 1)
			for i, u := range updates {
				if i != index || u.Index != i {
					t.Error(start, i)
				}
				n++
				index++
			}
			if n != want {
				t.Error(start, n)
			}
		}
		for range updates {
			break
		}
	}
	updates := l.From(1)
	for n := 6; n >= 0; n-- {
		if e := l.Truncate(n); e != api.OK || l.Len() != n {
			t.Error(n, e)
		}
		fresh, _ := update.New("R")
		for _, u := range steps()[:n] {
			fresh.Append(u)
		}
		if !bytes.Equal(l.Encode(), fresh.Encode()) || !l.Database().Equal(fresh.Database()) {
			t.Error(n)
		}
		if l.Truncate(n+1) != api.ErrRange || l.Truncate(-1) != api.ErrArg {
			t.Error(n)
		}
	}
	n := 0
	for range updates {
		n++
	}
	if n != 6 {
		t.Error(n)
	}
	// What is appended after a truncation does not change an earlier copy.
	l = full(t)
	c := l.Copy()
	l.Truncate(2)
	u := steps()[2]
	u.Fails = 9
	l.Append(u)
	if v, _ := c.At(3); v.Fails != 2 {
		t.Error(v.Fails)
	}
}

func TestEncodeLoad(t *testing.T) {
	l := full(t)
	want := binary.BigEndian.AppendUint32([]byte{1, 'R'}, 6)
	for _, u := range steps() {
		b, _ := update.Encode(u)
		want = append(binary.BigEndian.AppendUint32(want, uint32(len(b))), b...)
	}
	d, _ := l.Digest(6)
	want = append(want, d...)
	if !bytes.Equal(l.Encode(), want) {
		t.Error(l.Encode())
	}
	m, e := update.Load(want)
	if e != api.OK || !bytes.Equal(m.Encode(), want) || !m.Database().Equal(l.Database()) || m.Len() != 6 {
		t.Error(e)
	}
	for i := range want {
		if m, e := update.Load(want[:i]); m != nil || e != api.ErrFormat {
			t.Error(i, e)
		}
		x := bytes.Clone(want)
		x[i] ^= 1
		m, e := update.Load(x)
		if e == api.OK || m != nil || i >= len(x)-32 && e != api.ErrCheck || i < 6 && e != api.ErrFormat {
			t.Error(i, e)
		}
	}
	if _, e := update.Load(append(bytes.Clone(want), 0)); e != api.ErrFormat {
		t.Error(e)
	}
	empty, _ := update.New("R")
	if m, e := update.Load(empty.Encode()); e != api.OK || m.Len() != 0 {
		t.Error(e)
	}
	// The first update alone does not apply.
	b, _ := update.Encode(api.Update{Index: 1, Term: 1, Time: 10, Kind: api.UpdatePut, Entry: one()})
	x := append(binary.BigEndian.AppendUint32([]byte{1, 'R', 0, 0, 0, 1}, uint32(len(b))), b...)
	if _, e := update.Load(append(x, make([]byte, 32)...)); e != api.ErrFormat {
		t.Error(e)
	}
}

func TestNil(t *testing.T) {
	for _, l := range []*update.Log{nil, {}} {
		_, e := l.At(0)
		_, f := l.Digest(-1)
		if e != api.ErrNil || f != api.ErrNil || l.Append(api.Update{}) != api.ErrNil || l.Truncate(-1) != api.ErrNil || l.Realm() != "" || l.Len() != 0 || l.Database() != nil || len(l.Encode()) != 0 || l.Copy() != nil {
			t.Error(e, f)
		}
		for range l.From(0) {
			t.Error("from")
		}
	}
}
