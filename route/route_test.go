package route_test

import (
	"math/rand"
	"slices"
	"strconv"
	"strings"
	"testing"

	"watchword/api"
	"watchword/route"
)

func words(s string) []string { return strings.Fields(s) }

// trusts returns a map with pairs.
func trusts(t *testing.T, pairs ...string) *route.Map {
	t.Helper()
	m := &route.Map{}
	for _, p := range pairs {
		if w := words(p); m.Trust(w[0], w[1]) != api.OK {
			t.Fatal(p)
		}
	}
	return m
}

func example(t *testing.T) *route.Map {
	return trusts(t, "A B", "A C", "B D.C", "C D.C", "D.C A")
}

func TestTrust(t *testing.T) {
	m := example(t)
	for i, x := range []struct {
		a, b          string
		trust, remove api.Errno
	}{{"A", "B", api.ErrBusy, api.OK}, {"A", "A", api.ErrArg, api.ErrArg}, {"a", "B", api.ErrArg, api.ErrArg}, {"A", "", api.ErrArg, api.ErrArg}, {"B", "A", api.OK, api.OK}} {
		c := m.Copy()
		if e := c.Trust(x.a, x.b); e != x.trust {
			t.Error(i, e)
		}
		if e := c.Untrust(x.a, x.b); e != x.remove {
			t.Error(i, e)
		}
		if x.remove == api.OK && (c.Untrust(x.a, x.b) != api.ErrNone || c.Trusts(x.a, x.b)) {
			t.Error(i)
		}
	}
	if !m.Trusts("A", "B") || m.Trusts("B", "A") || m.Trusts("A", "Z") || m.Trusts("", "") {
		t.Error("trusts")
	}
	pairs := m.Pairs()
	m.Untrust("A", "B")
	for range 2 {
		s := ""
		for a, b := range pairs {
			s += a + b + " "
		}
		if s != "AB AC BD.C CD.C D.CA " {
			t.Error(s)
		}
	}
	for range pairs {
		break
	}
	var full route.Map
	for i := range route.MaxTrusts {
		if e := full.Trust("A", "B"+strconv.Itoa(i)); e != api.OK {
			t.Fatal(i, e)
		}
	}
	if full.Trust("A", "C") != api.ErrFull || full.Trust("A", "B5") != api.ErrBusy {
		t.Error("full")
	}
}

func TestNil(t *testing.T) {
	var m *route.Map
	var p *route.Policy
	_, e1 := m.Path("", "")
	_, e2 := m.Next("", "")
	s, e3 := p.Check("", "", nil)
	if e1 != api.ErrNil || e2 != api.ErrNil || e3 != api.ErrNil || s != "" || m.Trust("", "") != api.ErrNil || m.Untrust("", "") != api.ErrNil || m.Trusts("A", "B") || m.Copy() != nil || p.Allow("", "") != api.ErrNil || p.Forbid("", "") != api.ErrNil || p.Copy() != nil {
		t.Error(e1, e2, e3)
	}
	for range m.Pairs() {
		t.Error("pairs")
	}
	for range p.Rules() {
		t.Error("rules")
	}
	var zero route.Map
	if _, e := zero.Path("A", "B"); e != api.ErrNone || zero.Untrust("A", "B") != api.ErrNone || zero.Trusts("A", "B") {
		t.Error(e)
	}
}

func TestPath(t *testing.T) {
	m := example(t)
	for _, x := range []struct {
		a, b, want string
		e          api.Errno
	}{{"A", "D.C", "A B D.C", api.OK}, {"D.C", "C", "D.C A C", api.OK}, {"C", "C", "C", api.OK}, {"Z", "Z", "Z", api.OK}, {"A", "Z", "", api.ErrNone}, {"A", "z", "", api.ErrArg}, {"", "A", "", api.ErrArg}} {
		if p, e := m.Path(x.a, x.b); strings.Join(p, " ") != x.want || e != x.e {
			t.Error(x, p, e)
		}
	}
	m.Untrust("A", "B")
	if p, _ := m.Path("A", "D.C"); strings.Join(p, " ") != "A C D.C" {
		t.Error(p)
	}
}

func TestNext(t *testing.T) {
	m := example(t)
	h := trusts(t, "X.D.C D.C", "X.D.C C", "X.D.C Y.C", "D.C C", "Q X.D.C", "X.D.C Q", "Q Y.C")
	for _, x := range []struct {
		m          *route.Map
		a, b, want string
		e          api.Errno
	}{{m, "C", "D.C", "D.C", api.OK}, {m, "D.C", "C", "A", api.OK}, {m, "A", "D.C", "B", api.OK}, {m, "A", "A", "", api.ErrArg}, {m, "A", "Z", "", api.ErrNone}, {m, "a", "Z", "", api.ErrArg}, {h, "X.D.C", "Y.C", "Y.C", api.OK}, {h, "X.D.C", "Z.C", "C", api.OK}, {h, "X.D.C", "D.C", "D.C", api.OK}, {h, "D.C", "Z.C", "C", api.OK}, {h, "Q", "D.C", "X.D.C", api.OK}} {
		if s, e := x.m.Next(x.a, x.b); s != x.want || e != x.e {
			t.Error(x.a, x.b, s, e)
		}
	}
}

func TestHierarchy(t *testing.T) {
	for _, x := range []struct {
		a, b, want string
		e          api.Errno
	}{{"X.D.C", "Y.C", "X.D.C D.C C Y.C", api.OK}, {"Y.C", "X.D.C", "Y.C C D.C X.D.C", api.OK}, {"A", "B", "", api.ErrNone}, {"A", "A", "A", api.OK}, {"X.A", "A", "X.A A", api.OK}, {"A", "Y.X.A", "A X.A Y.X.A", api.OK}, {"A.B", "C.D", "", api.ErrNone}, {"a", "B", "", api.ErrArg}, {"A", "", "", api.ErrArg}} {
		if p, e := route.Hierarchy(x.a, x.b); strings.Join(p, " ") != x.want || e != x.e {
			t.Error(x, p, e)
		}
	}
	for realm, want := range map[string]string{"A.B.C": "B.C", "B.C": "C"} {
		if p, e := route.Parent(realm); p != want || e != api.OK {
			t.Error(realm, p, e)
		}
	}
	if p, e := route.Parent("C"); p != "" || e != api.ErrNone {
		t.Error(p, e)
	}
	if p, e := route.Parent("C."); p != "" || e != api.ErrArg {
		t.Error(p, e)
	}
}

func TestTransit(t *testing.T) {
	var full []string
	for i := range 16 {
		full = append(full, "F"+strconv.Itoa(i))
	}
	for i, x := range []struct {
		l                    []string
		client, from, own, w string
		e                    api.Errno
	}{{words("B"), "A", "D.C", "C", "B D.C", api.OK}, {nil, "A", "A", "C", "", api.OK}, {words("B"), "A", "C", "C", "B", api.OK}, {words("B E"), "A", "B", "C", "B E", api.OK}, {full, "A", "X", "C", "", api.ErrFull}, {full, "A", "F3", "C", strings.Join(full, " "), api.OK}, {full[1:], "A", "X", "C", strings.Join(full[1:], " ") + " X", api.OK}, {append(slices.Clone(full), "X"), "A", "X", "C", "", api.ErrFull}, {words("b"), "A", "B", "C", "", api.ErrArg}, {nil, "a", "B", "C", "", api.ErrArg}, {nil, "A", "b", "C", "", api.ErrArg}, {nil, "A", "B", "c", "", api.ErrArg}} {
		if l, e := route.Transit(x.l, x.client, x.from, x.own); strings.Join(l, " ") != x.w || e != x.e {
			t.Error(i, l, e)
		}
	}
	l := append(make([]string, 0, 5), "B")
	route.Transit(l, "A", "D", "C")
	if l[:2][1] == "D" {
		t.Error("changed")
	}
}

func TestPolicy(t *testing.T) {
	var p route.Policy
	through := words("B")
	if e := p.Allow("A", "D.C", through...); e != api.OK {
		t.Error(e)
	}
	through[0] = "X"
	many := make([]string, 17)
	for i := range many {
		many[i] = "R" + strconv.Itoa(i)
	}
	for i, x := range []struct {
		client, service string
		through         []string
		want            api.Errno
	}{{"A", "D.C", nil, api.ErrBusy}, {"A", "D.C", words("E E"), api.ErrArg}, {"a", "B", nil, api.ErrArg}, {"A", "b", nil, api.ErrArg}, {"A", "E", words("x"), api.ErrArg}, {"A", "E", many, api.ErrArg}, {"A", "E", many[:16], api.OK}, {"D.C", "A", words("Z Y"), api.OK}, {"A", "A", nil, api.OK}} {
		if e := p.Allow(x.client, x.service, x.through...); e != x.want {
			t.Error(i, e)
		}
	}
	for i, x := range []struct {
		client, service, transited, want string
		e                                api.Errno
	}{{"A", "D.C", "B C", "C", api.ErrNone}, {"A", "D.C", "B A D.C B", "", api.OK}, {"A", "D.C", "X", "X", api.ErrNone}, {"D.C", "Y.C", "C", "", api.OK}, {"D.C", "Y.C", "C Q", "Q", api.ErrNone}, {"A", "B", "", "", api.OK}, {"A", "B", "A B", "", api.OK}, {"A", "B", "C A", "C", api.ErrNone}, {"A", "B", "C c", "", api.ErrArg}, {"a", "B", "C", "", api.ErrArg}, {"D.C", "D.C", "C", "C", api.ErrNone}} {
		if s, e := p.Check(x.client, x.service, words(x.transited)); s != x.want || e != x.e {
			t.Error(i, s, e)
		}
	}
	c := p.Copy()
	rules := p.Rules()
	if p.Forbid("A", "D.C") != api.OK || p.Forbid("A", "D.C") != api.ErrNone || p.Forbid("a", "B") != api.ErrArg || p.Forbid("Z", "Z") != api.ErrNone {
		t.Error("forbid")
	}
	for range 2 {
		s := ""
		for key, l := range rules {
			s += key[0] + ">" + key[1] + ":" + strconv.Itoa(len(l)) + " "
			if len(l) == 2 && (l[0] != "Z" || l[1] != "Y") {
				t.Error(l)
			}
			if len(l) > 0 {
				l[0] = "changed"
			}
		}
		if s != "A>A:0 A>D.C:1 A>E:16 D.C>A:2 " {
			t.Error(s)
		}
	}
	for range rules {
		break
	}
	if s, _ := c.Check("A", "D.C", words("C")); s != "C" {
		t.Error("copy")
	}
	if _, e := c.Check("A", "D.C", words("B")); e != api.OK {
		t.Error("copy", e)
	}
	var full route.Policy
	for i := range route.MaxRules {
		if e := full.Allow("A", "B"+strconv.Itoa(i)); e != api.OK {
			t.Fatal(i, e)
		}
	}
	if full.Allow("A", "C") != api.ErrFull || full.Allow("A", "B7") != api.ErrBusy {
		t.Error("full")
	}
}

func TestRandomGraphs(t *testing.T) {
	r := rand.New(rand.NewSource(1))
	for range 50 {
		var m route.Map
		realms := words("A B C D E F G")
		for range r.Intn(20) {
			m.Trust(realms[r.Intn(7)], realms[r.Intn(7)])
		}
		for _, a := range realms {
			for _, b := range realms {
				p, e := m.Path(a, b)
				if best := shortest(&m, realms, a, b); strings.Join(p, " ") != best || (e == api.OK) != (best != "") {
					t.Fatal(a, b, p, best)
				}
				for at := a; e == api.OK && at != b; {
					next, f := m.Next(at, b)
					if f != api.OK || next != p[slices.Index(p, at)+1] {
						t.Fatal(a, b, at, next, p)
					}
					at = next
				}
			}
		}
	}
}

// shortest returns the route by trying all paths of increasing length in order.
func shortest(m *route.Map, realms []string, a, b string) string {
	paths := []string{a}
	for range realms {
		var next []string
		for _, p := range paths {
			w := words(p)
			if w[len(w)-1] == b {
				return p
			}
			for _, r := range realms {
				if m.Trusts(w[len(w)-1], r) && !slices.Contains(w, r) {
					next = append(next, p+" "+r)
				}
			}
		}
		paths = next
	}
	return ""
}
