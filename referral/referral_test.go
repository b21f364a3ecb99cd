package referral_test

import (
	"strconv"
	"strings"
	"testing"

	"watchword/api"
	"watchword/database"
	"watchword/name"
	"watchword/referral"
	"watchword/route"
)

func principal(s string) api.Principal {
	p, e := name.Parse(s)
	if e != api.OK {
		panic(s)
	}
	return p
}

// example returns the database, the map and the host map of the chapter's examples.
func example(t *testing.T) (*database.Database, *route.Map, *referral.Hosts) {
	t.Helper()
	d, _ := database.New("R")
	d.Put(api.Entry{Name: principal("a@R"), Aliases: []api.Principal{principal("b@R"), principal("www/al.x.org@R"), principal("krbtgt/Q@R")}})
	d.Put(api.Entry{Name: principal("krbtgt/S@R")})
	m, h := &route.Map{}, &referral.Hosts{}
	for _, p := range [][2]string{{"R", "S"}, {"S", "T.X"}, {"R", "V"}, {"R", "Q"}} {
		m.Trust(p[0], p[1])
	}
	for _, r := range [][2]string{{"x.org", "T.X"}, {".y.org", "S"}, {"own.org", "R"}, {"v.org", "V"}, {"far.org", "F"}} {
		if h.Add(r[0], r[1]) != api.OK {
			t.Fatal(r)
		}
	}
	return d, m, h
}

func TestHosts(t *testing.T) {
	_, _, h := example(t)
	h.Add("sub.x.org", "U")
	h.Add("org", "O")
	h.Add("az", "AZ")
	for host, want := range map[string]string{"AZ": "AZ", "B.aZ": "AZ", "X.org": "T.X", "m.x.org": "T.X", "mx.org": "O", "A.SUB.X.ORG": "U", "sub.x.org": "U", "asub.x.org": "T.X", "y.org": "O", "a.y.org": "S", ".y.org": "S", "a.b.y.org": "S", "": "", "com": "", "org": "O", "borg": "", strings.Repeat("a", 100) + ".org": "O", strings.Repeat("a", 100): ""} {
		r, e := h.Realm(host)
		if r != want || (e == api.OK) != (want != "") || want == "" && e != api.ErrNone {
			t.Error(host, r, e)
		}
	}
	for i, x := range []struct {
		suffix, realm string
		add, remove   api.Errno
	}{{"x.org", "Z", api.ErrBusy, api.OK}, {"", "Z", api.ErrArg, api.ErrArg}, {"X", "Z", api.ErrArg, api.ErrArg}, {"A", "Z", api.ErrArg, api.ErrArg}, {"Z", "Z", api.ErrArg, api.ErrArg}, {"@", "Z", api.OK, api.OK}, {"a b", "Z", api.ErrArg, api.ErrArg}, {"\x7f", "Z", api.ErrArg, api.ErrArg}, {strings.Repeat("a", 65), "Z", api.ErrArg, api.ErrArg}, {strings.Repeat("a", 64), "Z", api.OK, api.OK}, {"q", "z", api.ErrArg, api.ErrNone}, {"!~[`", "Z", api.OK, api.OK}} {
		c := h.Copy()
		if e := c.Add(x.suffix, x.realm); e != x.add {
			t.Error(i, e)
		}
		if e := c.Remove(x.suffix); e != x.remove {
			t.Error(i, e)
		}
		if x.remove == api.OK && c.Remove(x.suffix) != api.ErrNone {
			t.Error(i)
		}
	}
	if r, _ := h.Realm(strings.Repeat("A", 3) + ".x.org"); r != "T.X" {
		t.Error(r)
	}
	rules := h.Rules()
	h.Remove("x.org")
	for range 2 {
		s := ""
		for suffix, realm := range rules {
			s += suffix + ">" + realm + " "
		}
		if s != ".y.org>S az>AZ far.org>F org>O own.org>R sub.x.org>U v.org>V x.org>T.X " {
			t.Error(s)
		}
	}
	for range rules {
		break
	}
	var full referral.Hosts
	for i := range referral.MaxHosts {
		if e := full.Add("h"+strconv.Itoa(i), "R"); e != api.OK {
			t.Fatal(i, e)
		}
	}
	if full.Add("more", "R") != api.ErrFull || full.Add("h3", "R") != api.ErrBusy {
		t.Error("full")
	}
	var none *referral.Hosts
	if _, e := none.Realm("x"); e != api.ErrNil || none.Add("", "") != api.ErrNil || none.Remove("") != api.ErrNil || none.Copy() != nil {
		t.Error(e)
	}
	for range none.Rules() {
		t.Error("rules")
	}
	var zero referral.Hosts
	if _, e := zero.Realm("x"); e != api.ErrNone || zero.Remove("x") != api.ErrNone {
		t.Error(e)
	}
}

func TestClient(t *testing.T) {
	d, _, _ := example(t)
	for i, x := range []struct {
		name      string
		canonical bool
		kind      referral.Kind
		e         api.Errno
	}{{"a@R", false, 1, api.OK}, {"a@R", true, 1, api.OK}, {"b@R", false, 0, api.ErrNone}, {"b@R", true, 2, api.OK}, {"a@S", true, 0, api.ErrState}, {"x@R", true, 0, api.ErrNone}, {"krbtgt/T.X@R", true, 0, api.ErrNone}} {
		f, e := referral.Client(d, principal(x.name), x.canonical)
		if f.Kind != x.kind || e != x.e || e == api.OK && !name.Equal(f.Name, principal("a@R")) || f.Realm != "" {
			t.Error(i, f, e)
		}
	}
	_, e := referral.Client(nil, api.Principal{}, true)
	_, f := referral.Client(&database.Database{}, principal("a@R"), true)
	_, g := referral.Client(d, api.Principal{Realm: "S"}, true)
	if e != api.ErrNil || f != api.ErrNil || g != api.ErrArg {
		t.Error(e, f, g)
	}
}

func TestService(t *testing.T) {
	d, m, h := example(t)
	for _, x := range []struct {
		name      string
		canonical bool
		kind      referral.Kind
		found     string
	}{
		{"a@R", false, 1, "a@R"}, {"b@R", false, 0, ""}, {"b@R", true, 2, "a@R"}, {"krbtgt/S@R", false, 1, "krbtgt/S@R"}, {"www/db@T.X", false, 3, "krbtgt/S@R"}, {"www@S", false, 3, "krbtgt/S@R"}, {"krbtgt/T.X@R", false, 3, "krbtgt/S@R"}, {"www/db@U", false, 0, ""}, {"www/db@V", false, 0, ""}, {"krbtgt/R@R", true, 0, ""}, {"krbtgt/Q@R", false, 0, ""}, {"x@Q", false, 0, ""},
		{"www/m.x.org@R", true, 3, "krbtgt/S@R"}, {"www/m.x.org@R", false, 0, ""}, {"www/m.x.org/more@R", true, 3, "krbtgt/S@R"}, {"m.x.org@R", true, 0, ""}, {"www/own.org@R", true, 0, ""}, {"www/v.org@R", true, 0, ""}, {"www/far.org@R", true, 0, ""}, {"www/none@R", true, 0, ""}, {"www/al.x.org@R", false, 0, ""}, {"www/al.x.org@R", true, 2, "a@R"}, {"krbtgt/A.Y.ORG@S", true, 3, "krbtgt/S@R"},
	} {
		f, e := referral.Service(d, m, h, principal(x.name), x.canonical)
		if x.kind == 0 {
			if e != api.ErrNone || f.Kind != 0 || f.Realm != "" || len(f.Name.Parts) != 0 {
				t.Error(x, f, e)
			}
			continue
		}
		if f.Kind != x.kind || e != api.OK || !name.Equal(f.Name, principal(x.found)) || (f.Realm == "S") != (x.kind == 3) {
			t.Error(x, f, e)
		}
	}
	_, e1 := referral.Service(nil, m, h, api.Principal{}, false)
	_, e2 := referral.Service(d, nil, h, principal("a@R"), false)
	_, e3 := referral.Service(d, m, nil, principal("a@R"), false)
	_, e4 := referral.Service(d, m, h, api.Principal{}, false)
	if e1 != api.ErrNil || e2 != api.ErrNil || e3 != api.ErrNil || e4 != api.ErrArg {
		t.Error(e1, e2, e3, e4)
	}
}
