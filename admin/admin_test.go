package admin_test

import (
	"bytes"
	"slices"
	"strings"
	"testing"

	"watchword/admin"
	"watchword/api"
	"watchword/database"
	"watchword/der"
	"watchword/entry"
	"watchword/name"
	"watchword/password"
	"watchword/policy"
	"watchword/profile"
	"watchword/random"
	"watchword/update"
)

func principal(s string) api.Principal {
	p, e := name.Parse(s)
	if e != api.OK {
		panic(s)
	}
	return p
}

var plan = password.Plan{Profiles: []int{1, 2}, Iterations: 4}

const every = api.RightRead | api.RightCreate | api.RightModify | api.RightDelete | api.RightPassword | api.RightPolicy

func rule(who, target string, r api.Rights) api.AdminRule {
	return api.AdminRule{Who: principal(who), Target: principal(target), Rights: r}
}

func server(t *testing.T) *admin.Server {
	t.Helper()
	s, e := admin.New([]api.AdminRule{rule("root@R", "*@R", every), rule("admin@R", "*@R", api.RightRead|api.RightModify), rule("*@R", "u@R", 0), rule("*@R", "*@R", every)}, plan, []byte("seed"))
	if e != api.OK {
		t.Fatal(e)
	}
	return s
}

func rules(name string) api.Policy { return api.Policy{Name: name, Length: 4, Classes: 1, MinAge: 10} }

// data returns a database with u@R (alias alias@R), whose password is secret, and x/y@R.
func data(t *testing.T) *database.Database {
	t.Helper()
	d, _ := database.New("R")
	d.PutPolicy(rules("staff"))
	d.Put(api.Entry{Name: principal("u@R"), Aliases: []api.Principal{principal("alias@R")}, Policy: "staff", Targets: []api.Principal{principal("t@R")}})
	d.Put(api.Entry{Name: principal("x/y@R")})
	if _, e := password.Set(d, principal("u@R"), []byte("secret"), 10, plan, false); e != api.OK {
		t.Fatal(e)
	}
	d.Touch(principal("u@R"), 2, 7, 8)
	return d
}

// handle handles a request and applies its updates.
func handle(t *testing.T, s *admin.Server, d *database.Database, client string, r api.AdminRequest, now int) (api.AdminReply, []api.Update) {
	t.Helper()
	b, e := admin.EncodeRequest(r)
	if e != api.OK {
		t.Fatal(e)
	}
	before := d.Dump()
	reply, updates, e := s.Handle(d, principal(client), true, b, now)
	if e != api.OK || !bytes.Equal(before, d.Dump()) {
		t.Fatal(e)
	}
	y, e := admin.DecodeReply(reply)
	if e != api.OK || y.Code != api.OK && (len(updates)+len(y.Names) != 0 || len(y.Entry.Name.Parts) != 0) {
		t.Fatal(e, y)
	}
	for i, u := range updates {
		if u.Time != now || u.Index != 0 || u.Term != 0 {
			t.Error(u)
		}
		u.Index, u.Term = i+1, 1
		if e := update.Apply(d, u); e != api.OK {
			t.Error(e)
		}
	}
	return y, updates
}

// requests returns a request of each kind.
func requests() []api.AdminRequest {
	u := principal("u@R")
	e := api.Entry{Name: u, Attributes: 3, MaxLife: 9}
	return []api.AdminRequest{
		{Kind: api.AdminGet, Name: u}, {Kind: api.AdminList, Name: principal("*@R")}, {Kind: api.AdminCreate, Name: u, Entry: e, Password: []byte("p"), Must: true}, {Kind: api.AdminModify, Name: u, Entry: e}, {Kind: api.AdminDelete, Name: u}, {Kind: api.AdminPassword, Name: u, Password: make([]byte, 128), Must: true}, {Kind: api.AdminKeys, Name: u}, {Kind: api.AdminUnlock, Name: u}, {Kind: api.AdminChange, Name: u, Password: []byte("n"), Old: []byte("o")}, {Kind: api.AdminPolicy, Policy: rules("p")}, {Kind: api.AdminRemovePolicy, PolicyName: "!~"},
	}
}

func TestMatch(t *testing.T) {
	for i, v := range []struct {
		a, b string
		ok   bool
	}{{"*/a@R", "x/a@R", true}, {"*@R", "x/a@R", false}, {"*@R", "x@S", false}, {"*@R", "x@R", true}, {"x@R", "x@R", true}, {"x@R", "y@R", false}, {"x/*@R", "y/a@R", false}, {"*/*@R", "y/a@R", true}, {"x@R", "*@R", false}, {"*x@R", "yx@R", false}} {
		if admin.Match(principal(v.a), principal(v.b)) != v.ok {
			t.Error(i)
		}
	}
	if admin.Match(api.Principal{}, api.Principal{}) || admin.Match(principal("*@R"), api.Principal{Parts: []string{""}, Realm: "R"}) || admin.Match(api.Principal{Parts: []string{"*"}, Realm: "r"}, api.Principal{Parts: []string{"a"}, Realm: "r"}) {
		t.Error("invalid")
	}
}

func TestRequests(t *testing.T) {
	extra := []func(*api.AdminRequest){
		func(r *api.AdminRequest) { r.Kind = 0 }, func(r *api.AdminRequest) { r.Kind = 12 }, func(r *api.AdminRequest) { r.Name.Realm = "r" },
	}
	for i, r := range requests() {
		b, e := admin.EncodeRequest(r)
		d, f := admin.DecodeRequest(b)
		again, _ := admin.EncodeRequest(d)
		if !admin.ValidRequest(r) || e != api.OK || f != api.OK || !bytes.Equal(b, again) || d.Kind != r.Kind || string(d.Password) != string(r.Password) || d.Must != r.Must || d.Policy != r.Policy {
			t.Error(i, e, f)
		}
		for j, change := range append(extra, func(r *api.AdminRequest) { r.Old = append(r.Old, make([]byte, 129)...) }, func(r *api.AdminRequest) { r.Policy.Lock-- }, func(r *api.AdminRequest) { r.PolicyName += " " }, func(r *api.AdminRequest) { r.Entry.Fails = 1 }, func(r *api.AdminRequest) { r.Password = make([]byte, 129) }) {
			x := r
			x.Name = name.Copy(r.Name)
			change(&x)
			if b, e := admin.EncodeRequest(x); admin.ValidRequest(x) || e != api.ErrArg || len(b) != 0 {
				t.Error(i, j, e)
			}
		}
		for j := range b {
			if _, e := admin.DecodeRequest(b[:j]); e != api.ErrFormat {
				t.Error(i, j, e)
			}
		}
		if _, e := admin.DecodeRequest(append(b, 0)); e != api.ErrFormat {
			t.Error(i, e)
		}
	}
	l := requests()
	bad := []api.AdminRequest{l[2], l[2], l[2], l[2], l[2], l[2], l[5], l[5], l[8], l[8], l[0], l[3], l[9], l[10], l[10]}
	for i, change := range []func(*api.AdminRequest){func(r *api.AdminRequest) { r.Password = nil }, func(r *api.AdminRequest) { r.Name = principal("v@R") }, func(r *api.AdminRequest) { r.Entry.Master = 1 }, func(r *api.AdminRequest) { r.Entry.LastFail = 1 }, func(r *api.AdminRequest) { r.Entry.LastSuccess = 1 }, func(r *api.AdminRequest) { r.Entry.History = [][]byte{make([]byte, 16)} }, func(r *api.AdminRequest) { r.Password = nil }, func(r *api.AdminRequest) { r.Old = []byte("o") }, func(r *api.AdminRequest) { r.Old = nil }, func(r *api.AdminRequest) { r.Must = true }, func(r *api.AdminRequest) { r.Password = []byte("p") }, func(r *api.AdminRequest) { r.Password = []byte("p") }, func(r *api.AdminRequest) { r.Name = principal("u@R") }, func(r *api.AdminRequest) { r.PolicyName = "" }, func(r *api.AdminRequest) { r.PolicyName = strings.Repeat("p", 33) }} {
		x := bad[i]
		change(&x)
		if admin.ValidRequest(x) {
			t.Error(i)
		}
	}
	u, _ := name.Encode(principal("u@R"))
	b, _ := admin.EncodeRequest(l[5])
	if want := der.Application(29, der.Sequence(der.Tagged(0, der.Integer(6)), der.Tagged(1, u), der.Tagged(3, der.Octets(make([]byte, 128))), der.Tagged(5, der.Bool(true)))); !bytes.Equal(b, want) {
		t.Error(b)
	}
	text, _ := policy.Text(rules("p"))
	b, _ = admin.EncodeRequest(l[9])
	if want := der.Application(29, der.Sequence(der.Tagged(0, der.Integer(10)), der.Tagged(6, der.String(text)))); !bytes.Equal(b, want) {
		t.Error(b)
	}
	for i, b := range [][]byte{der.Application(29, der.Sequence(der.Tagged(0, der.Integer(1)), der.Tagged(1, u), der.Tagged(5, der.Bool(false)))), der.Application(29, der.Sequence(der.Tagged(0, der.Integer(1)), der.Tagged(1, u), der.Tagged(3, der.Octets(nil)))), der.Application(22, der.Sequence(der.Tagged(0, der.Integer(1)), der.Tagged(1, u))), nil} {
		if _, e := admin.DecodeRequest(b); e != api.ErrFormat {
			t.Error(i, e)
		}
	}
}

func TestReplies(t *testing.T) {
	e := api.Entry{Name: principal("u@R"), Fails: 3}
	keyed := e
	keyed.Keys = []api.KeySet{{Version: 1, Keys: []api.Key{{Profile: 1, Version: 1, Bytes: make([]byte, 16)}}}}
	for i, v := range []struct {
		r  api.AdminReply
		ok bool
	}{{api.AdminReply{}, true}, {api.AdminReply{Code: 1000, Rule: 100}, true}, {api.AdminReply{Entry: e}, true}, {api.AdminReply{Names: []api.Principal{principal("a@R"), principal("b@R")}}, true}, {api.AdminReply{Code: -1}, false}, {api.AdminReply{Code: 1001}, false}, {api.AdminReply{Rule: -1}, false}, {api.AdminReply{Rule: 101}, false}, {api.AdminReply{Entry: keyed}, false}, {api.AdminReply{Entry: api.Entry{Fails: 1}}, false}, {api.AdminReply{Names: make([]api.Principal, 1)}, false}, {api.AdminReply{Names: slices.Repeat([]api.Principal{principal("a@R")}, 4096)}, true}, {api.AdminReply{Names: slices.Repeat([]api.Principal{principal("a@R")}, 4097)}, false}} {
		b, f := admin.EncodeReply(v.r)
		if (f == api.OK) != v.ok || !v.ok && (f != api.ErrArg || len(b) != 0) {
			t.Error(i, f)
		}
		if v.ok {
			d, g := admin.DecodeReply(b)
			if g != api.OK || d.Code != v.r.Code || d.Rule != v.r.Rule || !entry.Equal(d.Entry, v.r.Entry) || !slices.EqualFunc(d.Names, v.r.Names, name.Equal) {
				t.Error(i, g)
			}
			if _, g := admin.DecodeReply(append(b, 0)); g != api.ErrFormat {
				t.Error(i, g)
			}
		}
	}
	if b, _ := admin.EncodeReply(api.AdminReply{Code: 5}); !bytes.Equal(b, der.Application(22, der.Sequence(der.Tagged(0, der.Integer(5))))) {
		t.Error(b)
	}
	if _, e := admin.DecodeReply(der.Application(22, der.Sequence(der.Tagged(0, der.Integer(5)), der.Tagged(1, der.Integer(0))))); e != api.ErrFormat {
		t.Error(e)
	}
}

func TestServer(t *testing.T) {
	good := rule("*@R", "*@R", every)
	for i, v := range []struct {
		l    []api.AdminRule
		plan password.Plan
		seed []byte
		ok   bool
	}{{nil, plan, []byte("s"), true}, {nil, password.Plan{Profiles: []int{2}, Iterations: 1}, []byte("s"), true}, {nil, password.Plan{Profiles: []int{1, 1}, Iterations: 1}, []byte("s"), false}, {nil, password.Plan{Profiles: []int{1}}, []byte("s"), false}, {slices.Repeat([]api.AdminRule{good}, 64), plan, []byte("s"), true}, {slices.Repeat([]api.AdminRule{good}, 65), plan, []byte("s"), false}, {[]api.AdminRule{{Who: good.Who}}, plan, []byte("s"), false}, {[]api.AdminRule{rule("a@R", "b@R", 64)}, plan, []byte("s"), false}, {nil, password.Plan{}, []byte("s"), false}, {nil, password.Plan{Profiles: []int{2, 1}, Iterations: 1}, []byte("s"), false}, {nil, password.Plan{Profiles: []int{1}, Iterations: 65537}, []byte("s"), false}, {nil, plan, nil, false}} {
		if s, e := admin.New(v.l, v.plan, v.seed); (e == api.OK) != v.ok || !v.ok && (s != nil || e != api.ErrArg) {
			t.Error(i, e)
		}
	}
	s := server(t)
	for i, v := range []struct {
		client string
		kind   api.AdminKind
		target string
		ok     bool
	}{{"admin@R", api.AdminGet, "u@R", true}, {"admin@R", api.AdminList, "*@R", true}, {"admin@R", api.AdminModify, "u@R", true}, {"admin@R", api.AdminUnlock, "u@R", true}, {"admin@R", api.AdminDelete, "u@R", false}, {"admin@R", api.AdminCreate, "v@R", false}, {"admin@R", api.AdminPassword, "u@R", false}, {"admin@R", api.AdminPolicy, "policy@R", false}, {"root@R", api.AdminPolicy, "policy@R", true}, {"root@R", api.AdminKeys, "u@R", true}, {"root@R", api.AdminCreate, "u@R", true}, {"root@R", api.AdminDelete, "u@R", true}, {"u@R", api.AdminChange, "u@R", true}, {"root@R", api.AdminChange, "u@R", false}, {"u@R", api.AdminGet, "u@R", false}, {"u@R", api.AdminGet, "v@R", true}, {"u@R", api.AdminGet, "v/w@R", false}, {"u@S", api.AdminGet, "v@R", false}, {"root@R", 0, "u@R", false}, {"root@R", 12, "u@R", false}} {
		if s.Allowed(principal(v.client), v.kind, principal(v.target)) != v.ok {
			t.Error(i)
		}
	}
	if s.Allowed(api.Principal{}, api.AdminGet, principal("u@R")) || s.Allowed(principal("u@R"), api.AdminChange, api.Principal{}) || s.Allowed(principal("root@R"), api.AdminGet, api.Principal{}) {
		t.Error("invalid")
	}
	all := s.Rules()
	for range 2 {
		n := 0
		for i, r := range all {
			if i != n || i == 0 && r.Who.Parts[0] != "root" {
				t.Error(i, r)
			}
			r.Who.Parts[0] = "changed"
			n++
		}
		if n != 4 {
			t.Error(n)
		}
	}
	for range all {
		break
	}
	for _, s := range []*admin.Server{nil, {}} {
		_, _, e := s.Handle(data(t), api.Principal{}, true, nil, -1)
		if e != api.ErrNil || s.Copy() != nil || s.Allowed(principal("u@R"), api.AdminChange, principal("u@R")) {
			t.Error(e)
		}
		for range s.Rules() {
			t.Error("rules")
		}
	}
	_, _, e1 := s.Handle(nil, principal("u@R"), true, nil, 1)
	_, _, e2 := s.Handle(data(t), api.Principal{}, true, nil, 1)
	_, _, e3 := s.Handle(data(t), principal("u@S"), true, nil, 1)
	_, _, e4 := s.Handle(data(t), principal("u@R"), true, nil, -1)
	b, l, e5 := s.Handle(data(t), principal("u@R"), true, nil, 1)
	r, _ := admin.DecodeReply(b)
	if e1 != api.ErrNil || e2 != api.ErrArg || e3 != api.ErrArg || e4 != api.ErrArg || e5 != api.OK || len(l) != 0 || r.Code != api.ErrFormat {
		t.Error(e1, e2, e3, e4, e5, r)
	}
}

func TestReading(t *testing.T) {
	s, d := server(t), data(t)
	for _, n := range []string{"u@R", "alias@R"} {
		r, l := handle(t, s, d, "admin@R", api.AdminRequest{Kind: api.AdminGet, Name: principal(n)}, 50)
		want, _ := d.Get(principal("u@R"))
		want.Keys, want.History = nil, nil
		if r.Code != api.OK || len(l) != 0 || !entry.Equal(r.Entry, want) {
			t.Error(r)
		}
	}
	if r, _ := handle(t, s, d, "admin@R", api.AdminRequest{Kind: api.AdminGet, Name: principal("z@R")}, 50); r.Code != api.ErrNone {
		t.Error(r)
	}
	if r, _ := handle(t, s, d, "v@R", api.AdminRequest{Kind: api.AdminGet, Name: principal("u@R")}, 50); r.Code != api.ErrAdmin {
		t.Error(r)
	}
	r, l := handle(t, s, d, "admin@R", api.AdminRequest{Kind: api.AdminList, Name: principal("*@R")}, 50)
	if r.Code != api.OK || len(l) != 0 || len(r.Names) != 1 || !name.Equal(r.Names[0], principal("u@R")) {
		t.Error(r)
	}
}

func TestWriting(t *testing.T) {
	s, d := server(t), data(t)
	g, _ := random.New([]byte("seed"))
	u := principal("u@R")
	type R = api.AdminRequest
	r, l := handle(t, s, d, "admin@R", R{Kind: api.AdminUnlock, Name: u}, 50)
	if r.Code != api.OK || len(l) != 1 || l[0].Kind != api.UpdateTouch || l[0].Fails != 0 || l[0].LastFail != 7 || l[0].LastSuccess != 8 || !name.Equal(l[0].Name, u) {
		t.Error(r, l)
	}
	d.Touch(u, 4, 5, 6)
	old, _ := d.Get(u)
	changed := api.Entry{Name: u, Attributes: api.AttrPreAuth, MaxLife: 77}
	r, l = handle(t, s, d, "admin@R", R{Kind: api.AdminModify, Name: u, Entry: changed}, 50)
	want := changed
	want.Keys, want.History, want.Fails, want.LastFail, want.LastSuccess = old.Keys, old.History, 4, 5, 6
	if x, _ := d.Get(u); r.Code != api.OK || len(l) != 1 || l[0].Kind != api.UpdatePut || !entry.Equal(x, want) {
		t.Error(r, l)
	}
	for i, v := range []struct {
		r    R
		now  int
		want api.Errno
		rule api.Rule
	}{
		{R{Kind: api.AdminModify, Name: principal("alias@R"), Entry: api.Entry{Name: principal("alias@R")}}, 50, api.ErrNone, 0}, {R{Kind: api.AdminModify, Name: u, Entry: api.Entry{Name: u, Policy: "none"}}, 50, api.ErrNone, 0}, {R{Kind: api.AdminModify, Name: u, Entry: api.Entry{Name: u, Aliases: []api.Principal{principal("n@R"), principal("x/y@R")}}}, 50, api.ErrBusy, 0}, {R{Kind: api.AdminCreate, Name: u, Entry: api.Entry{Name: u}}, 50, api.ErrBusy, 0}, {R{Kind: api.AdminCreate, Name: principal("n@R"), Entry: api.Entry{Name: principal("n@R"), Policy: "none"}}, 50, api.ErrNone, 0}, {R{Kind: api.AdminCreate, Name: principal("n@R"), Entry: api.Entry{Name: principal("n@R"), Policy: "staff"}, Password: []byte("abc")}, 50, password.ErrRule, api.RuleShort}, {R{Kind: api.AdminDelete, Name: principal("n@R")}, 50, api.ErrNone, 0}, {R{Kind: api.AdminPassword, Name: principal("n@R"), Password: []byte("p")}, 50, api.ErrNone, 0}, {R{Kind: api.AdminPassword, Name: u, Password: []byte("p")}, 5, api.ErrArg, 0}, {R{Kind: api.AdminKeys, Name: principal("n@R")}, 50, api.ErrNone, 0}, {R{Kind: api.AdminKeys, Name: u}, 5, api.ErrArg, 0}, {R{Kind: api.AdminUnlock, Name: principal("n@R")}, 50, api.ErrNone, 0}, {R{Kind: api.AdminRemovePolicy, PolicyName: "none"}, 50, api.ErrNone, 0},
	} {
		if r, l := handle(t, s, d, "root@R", v.r, v.now); r.Code != v.want || r.Rule != v.rule || len(l) != 0 {
			t.Error(i, r)
		}
	}
	// Random keys are the next ones of the generator: the errors above took none.
	r, l = handle(t, s, d, "root@R", R{Kind: api.AdminKeys, Name: u}, 60)
	k1, _ := g.Key(1, 16)
	k2, _ := g.Key(2, 32)
	k1.Version, k2.Version = 2, 2
	if x, _ := d.Get(u); r.Code != api.OK || len(l) != 1 || len(x.Keys) != 2 || x.Keys[0].Created != 60 || !profile.Equal(x.Keys[0].Keys[0], k1) || !profile.Equal(x.Keys[0].Keys[1], k2) {
		t.Error(r, x.Keys)
	}
	n := api.Entry{Name: principal("n@R"), Policy: "staff", MaxLife: 3}
	r, l = handle(t, s, d, "root@R", R{Kind: api.AdminCreate, Name: n.Name, Entry: n, Password: []byte("good"), Must: true}, 70)
	x, _ := d.Get(n.Name)
	if ok, _ := password.Match(x, []byte("good")); r.Code != api.OK || len(l) != 1 || !ok || x.Attributes != api.AttrMustChange || x.MaxLife != 3 {
		t.Error(r, x)
	}
	m := api.Entry{Name: principal("m@R")}
	r, _ = handle(t, s, d, "root@R", R{Kind: api.AdminCreate, Name: m.Name, Entry: m}, 70)
	k1, _ = g.Key(1, 16)
	if x, _ := d.Get(m.Name); r.Code != api.OK || len(x.Keys) != 1 || !bytes.Equal(x.Keys[0].Keys[0].Bytes, k1.Bytes) {
		t.Error(r, x)
	}
	r, _ = handle(t, s, d, "root@R", R{Kind: api.AdminPassword, Name: n.Name, Password: []byte("next"), Must: false}, 80)
	x, _ = d.Get(n.Name)
	if ok, _ := password.Match(x, []byte("next")); r.Code != api.OK || !ok || x.Attributes != 0 {
		t.Error(r)
	}
	r, l = handle(t, s, d, "root@R", R{Kind: api.AdminDelete, Name: m.Name}, 80)
	if r.Code != api.OK || len(l) != 1 || l[0].Kind != api.UpdateRemove || !name.Equal(l[0].Name, m.Name) {
		t.Error(r, l)
	}
	r, l = handle(t, s, d, "root@R", R{Kind: api.AdminPolicy, Policy: rules("new")}, 80)
	if r.Code != api.OK || len(l) != 1 || l[0].Kind != api.UpdatePolicy || l[0].Policy != rules("new") {
		t.Error(r, l)
	}
	r, l = handle(t, s, d, "root@R", R{Kind: api.AdminRemovePolicy, PolicyName: "new"}, 80)
	if r.Code != api.OK || len(l) != 1 || l[0].Kind != api.UpdateRemovePolicy || l[0].PolicyName != "new" {
		t.Error(r, l)
	}
	if r, _ = handle(t, s, d, "root@R", R{Kind: api.AdminRemovePolicy, PolicyName: "staff"}, 80); r.Code != api.ErrBusy {
		t.Error(r)
	}
	if r, _ = handle(t, s, d, "admin@R", R{Kind: api.AdminRemovePolicy, PolicyName: "staff"}, 80); r.Code != api.ErrAdmin {
		t.Error(r)
	}
}

func TestChange(t *testing.T) {
	s, d := server(t), data(t)
	u := principal("u@R")
	change := func(old, next string) api.AdminRequest {
		return api.AdminRequest{Kind: api.AdminChange, Name: u, Old: []byte(old), Password: []byte(next)}
	}
	for i, v := range []struct {
		client string
		r      api.AdminRequest
		now    int
		want   api.Errno
		rule   api.Rule
	}{{"root@R", change("secret", "better"), 50, api.ErrAdmin, 0}, {"u@R", change("wrong", "better"), 50, api.ErrCheck, 0}, {"u@R", change("secret", "better"), 15, password.ErrTooSoon, 0}, {"u@R", change("secret", "abc"), 50, password.ErrRule, api.RuleShort}, {"u@R", change("secret", "better"), 50, api.OK, 0}} {
		if r, l := handle(t, s, d, v.client, v.r, v.now); r.Code != v.want || r.Rule != v.rule || len(l) != 0 && l[0].Kind != api.UpdatePut {
			t.Error(i, r)
		}
	}
	x, _ := d.Get(u)
	if ok, _ := password.Match(x, []byte("better")); !ok {
		t.Error("password")
	}
	b, _ := admin.EncodeRequest(change("better", "again"))
	reply, l, e := s.Handle(d, u, false, b, 100)
	if r, _ := admin.DecodeReply(reply); r.Code != api.ErrAdmin || len(l) != 0 || e != api.OK {
		t.Error(r, e)
	}
	c := s.Copy()
	keys := api.AdminRequest{Kind: api.AdminKeys, Name: u}
	p, q := d.Copy(), d.Copy()
	handle(t, s, p, "root@R", keys, 100)
	handle(t, c, q, "root@R", keys, 100)
	if !p.Equal(q) {
		t.Error("copy")
	}
}
