package audit_test

import (
	"slices"
	"testing"

	"watchword/api"
	"watchword/audit"
	"watchword/name"
	"watchword/route"
)

func principal(s string) api.Principal {
	p, e := name.Parse(s)
	if e != api.OK {
		panic(s)
	}
	return p
}

func issue() api.Event {
	return api.Event{Kind: api.EventIssue, Time: 10, Client: principal("u@R"), Service: principal("s@R"), Session: []byte{1}, Times: api.Times{Auth: 10, Start: 10, End: 20}}
}

func accept(authenticator byte) api.Event {
	return api.Event{Kind: api.EventAccept, Time: 12, Client: principal("u@R"), Service: principal("s@R"), Session: []byte{1}, Authenticator: []byte{authenticator}}
}

func delegation(to string) api.Event {
	return api.Event{Kind: api.EventDelegate, Client: principal("u@R"), Service: principal(to), By: principal("web/a@R")}
}

func auditor(t *testing.T, p *route.Policy) *audit.Auditor {
	t.Helper()
	a, e := audit.New(p, []api.Delegation{{By: principal("web/a@R"), To: principal("db/a@R")}}, 5)
	if e != api.OK {
		t.Fatal(e)
	}
	return a
}

// add adds an event whose findings must break some rules.
func add(t *testing.T, what string, a *audit.Auditor, x api.Event, want ...api.AuditRule) {
	t.Helper()
	index := a.Len()
	l, e := a.Add(x)
	var got []api.AuditRule
	for _, f := range l {
		got = append(got, f.Rule)
		if f.Index != index {
			t.Error(what, f)
		}
	}
	if e != api.OK || !slices.Equal(got, want) || a.Len() != index+1 {
		t.Error(what, got, e)
	}
}

func TestExample(t *testing.T) {
	a := auditor(t, nil)
	add(t, "holder", a, accept(9), api.AuditHolder)
	add(t, "issue", a, issue())
	add(t, "once", a, accept(9), api.AuditOnce)
	add(t, "good", a, accept(10))
	late, other := accept(11), accept(12)
	late.Time, other.Session = 26, []byte{2}
	add(t, "late", a, late, api.AuditTime)
	add(t, "other", a, other, api.AuditHolder)
	add(t, "delegation", a, delegation("db/a@R"))
	add(t, "target", a, delegation("db/b@R"), api.AuditTarget)
	if a.Len() != 8 || a.Count(api.AuditHolder) != 2 || a.Count(api.AuditRealm) != 0 {
		t.Error(a.Len())
	}
	findings := a.Findings()
	b := a.Copy()
	add(t, "again", b, other, api.AuditOnce, api.AuditHolder)
	a.Add(other)
	want := []api.Finding{{Rule: api.AuditHolder, Index: 0}, {Rule: api.AuditOnce, Index: 2}, {Rule: api.AuditTime, Index: 4}, {Rule: api.AuditHolder, Index: 5}, {Rule: api.AuditTarget, Index: 7}}
	for range 2 {
		n := 0
		for i, f := range findings {
			if i != n || f != want[i] {
				t.Error(i, f)
			}
			n++
		}
		if n != 5 {
			t.Error(n)
		}
	}
	for range findings {
		break
	}
}

func TestRules(t *testing.T) {
	a := auditor(t, nil)
	add(t, "issue", a, issue())
	for i, change := range []func(*api.Event){func(x *api.Event) { x.Client = principal("v@R") }, func(x *api.Event) { x.Service = principal("t@R") }, func(x *api.Event) { x.Session = []byte{1, 0} }} {
		x := accept(byte(i + 1))
		change(&x)
		add(t, "another", a, x, api.AuditHolder)
	}
	early := accept(20)
	early.Time = 4
	add(t, "early", a, early, api.AuditTime)
	early.Time, early.Authenticator = 5, []byte{21}
	add(t, "skew", a, early)
	// The last ticket with the session key counts.
	second := issue()
	second.Times = api.Times{Auth: 10, Start: 100, End: 200}
	second.Transited = []string{"X"}
	add(t, "second", a, second)
	add(t, "time and realm", a, accept(30), api.AuditTime, api.AuditRealm)
	service := accept(30)
	service.Service = principal("t@R")
	add(t, "other service", a, service, api.AuditHolder)
	var p route.Policy
	p.Allow("R", "R", "X")
	b := auditor(t, &p)
	p.Forbid("R", "R")
	add(t, "issue", b, second)
	x := accept(1)
	x.Time = 150
	add(t, "allowed", b, x)
}

func TestValid(t *testing.T) {
	long := make([]byte, 65)
	many := slices.Repeat([]string{"X"}, 17)
	for i, v := range []struct {
		x      api.Event
		change func(*api.Event)
		ok     bool
	}{
		{issue(), func(*api.Event) {}, true}, {issue(), func(x *api.Event) { x.Kind = 0 }, false}, {issue(), func(x *api.Event) { x.Kind = 4 }, false}, {issue(), func(x *api.Event) { x.Time = -1 }, false}, {issue(), func(x *api.Event) { x.Time = 1<<40 + 1 }, false}, {issue(), func(x *api.Event) { x.Client.Realm = "" }, false}, {issue(), func(x *api.Event) { x.Service.Parts = nil }, false}, {issue(), func(x *api.Event) { x.Session = nil }, false}, {issue(), func(x *api.Event) { x.Session = long }, false}, {issue(), func(x *api.Event) { x.Session = long[1:] }, true}, {issue(), func(x *api.Event) { x.Times.End = 10 }, false}, {issue(), func(x *api.Event) { x.Transited = many }, false}, {issue(), func(x *api.Event) { x.Transited = many[1:] }, true}, {issue(), func(x *api.Event) { x.Transited = []string{"x"} }, false}, {issue(), func(x *api.Event) { x.By.Realm = "?"; x.Authenticator = long }, true},
		{accept(1), func(*api.Event) {}, true}, {accept(1), func(x *api.Event) { x.Session = nil }, false}, {accept(1), func(x *api.Event) { x.Authenticator = nil }, false}, {accept(1), func(x *api.Event) { x.Authenticator = long }, false}, {accept(1), func(x *api.Event) { x.Times.Auth = -5; x.Transited = many }, true}, {delegation("a@R"), func(*api.Event) {}, true}, {delegation("a@R"), func(x *api.Event) { x.By = api.Principal{} }, false}, {delegation("a@R"), func(x *api.Event) { x.Session = long }, true},
	} {
		x := v.x
		v.change(&x)
		_, e := auditor(t, nil).Add(x)
		if audit.Valid(x) != v.ok || (e == api.OK) != v.ok || !v.ok && e != api.ErrArg {
			t.Error(i, e)
		}
	}
}

func TestNew(t *testing.T) {
	good := api.Delegation{By: principal("a@R"), To: principal("b@R")}
	for i, v := range []struct {
		l    []api.Delegation
		skew int
		ok   bool
	}{{nil, 0, true}, {slices.Repeat([]api.Delegation{good}, 100), 86400, true}, {slices.Repeat([]api.Delegation{good}, 101), 0, false}, {nil, -1, false}, {nil, 86401, false}, {[]api.Delegation{{By: good.By}}, 0, false}, {[]api.Delegation{{To: good.To}}, 0, false}} {
		if a, e := audit.New(nil, v.l, v.skew); (e == api.OK) != v.ok || !v.ok && (a != nil || e != api.ErrArg) {
			t.Error(i, e)
		}
	}
	l := []api.Delegation{{By: principal("web/a@R"), To: principal("db/a@R")}}
	a, _ := audit.New(nil, l, 5)
	l[0].By.Parts[0] = "x"
	add(t, "shared", a, delegation("db/a@R"))
	x := issue()
	a.Add(x)
	x.Session[0] = 9
	y, e := a.Event(1)
	if e != api.OK || y.Session[0] != 1 {
		t.Error(y, e)
	}
	y.Session[0] = 8
	if y, _ = a.Event(1); y.Session[0] != 1 {
		t.Error("shared")
	}
	for _, i := range []int{-1, 2} {
		if y, e := a.Event(i); e != api.ErrNone || y.Kind != 0 {
			t.Error(i, e)
		}
	}
	for _, a := range []*audit.Auditor{nil, {}} {
		_, e := a.Add(api.Event{})
		_, f := a.Event(-1)
		if e != api.ErrNil || f != api.ErrNil || a.Len()+a.Count(1) != 0 || a.Copy() != nil {
			t.Error(e, f)
		}
		for range a.Findings() {
			t.Error("findings")
		}
	}
}

func TestFull(t *testing.T) {
	a := auditor(t, nil)
	for i := range audit.MaxEvents {
		if _, e := a.Add(delegation("db/a@R")); e != api.OK {
			t.Fatal(i, e)
		}
	}
	if x, e := a.Event(0); e != api.OK || x.Kind != delegation("db/a@R").Kind {
		t.Error(e)
	}
	if _, e := a.Event(a.Len()); e != api.ErrNone {
		t.Error(e)
	}
	if _, e := a.Add(issue()); e != api.ErrFull {
		t.Error(e)
	}
	if _, e := a.Add(api.Event{}); e != api.ErrArg {
		t.Error(e)
	}
}
