package policy_test

import (
	"slices"
	"strings"
	"testing"

	"watchword/api"
	"watchword/policy"
)

func staff() api.Policy {
	return api.Policy{Name: "staff", Length: 8, Classes: 3, Distinct: 4, History: 2, MinAge: 60, MaxAge: 600, Fails: 3, Window: 300, Lock: 900}
}

func TestValid(t *testing.T) {
	for i, x := range []struct {
		change func(*api.Policy)
		valid  bool
	}{
		{func(p *api.Policy) { p.Name = "" }, false}, {func(p *api.Policy) { p.Name = strings.Repeat("a", 32) }, true}, {func(p *api.Policy) { p.Name = strings.Repeat("a", 33) }, false}, {func(p *api.Policy) { p.Name = "aZ0-_." }, true}, {func(p *api.Policy) { p.Name = "a b" }, false}, {func(p *api.Policy) { p.Name = "a/b" }, false}, {func(p *api.Policy) { p.Name = "é" }, false},
		{func(p *api.Policy) { p.Length = 0; p.Distinct = 0 }, false}, {func(p *api.Policy) { p.Length = 64 }, true}, {func(p *api.Policy) { p.Length = 65 }, false}, {func(p *api.Policy) { p.Classes = 0 }, false}, {func(p *api.Policy) { p.Classes = 5 }, true}, {func(p *api.Policy) { p.Classes = 6 }, false}, {func(p *api.Policy) { p.Distinct = 0 }, true}, {func(p *api.Policy) { p.Distinct = -1 }, false}, {func(p *api.Policy) { p.Distinct = 8 }, true}, {func(p *api.Policy) { p.Distinct = 9 }, false},
		{func(p *api.Policy) { p.History = -1 }, false}, {func(p *api.Policy) { p.History = 16 }, true}, {func(p *api.Policy) { p.History = 17 }, false}, {func(p *api.Policy) { p.MinAge = -1 }, false}, {func(p *api.Policy) { p.MinAge = 600 }, true}, {func(p *api.Policy) { p.MinAge = 601 }, false}, {func(p *api.Policy) { p.MinAge = 601; p.MaxAge = 0 }, true}, {func(p *api.Policy) { p.MaxAge = -1; p.MinAge = 0 }, false}, {func(p *api.Policy) { p.MaxAge = 1 << 40 }, true}, {func(p *api.Policy) { p.MaxAge = 1<<40 + 1 }, false}, {func(p *api.Policy) { p.MinAge = 1<<40 + 1; p.MaxAge = 0 }, false},
		{func(p *api.Policy) { *p = api.Policy{Name: "p", Length: 1, Classes: 1} }, true}, {func(p *api.Policy) { p.History, p.MinAge = 0, 0 }, true}, {func(p *api.Policy) { p.Fails, p.Window, p.Lock = 1, 0, 0 }, true},
		{func(p *api.Policy) { p.Fails = -1 }, false}, {func(p *api.Policy) { p.Fails = 1000 }, true}, {func(p *api.Policy) { p.Fails = 1001 }, false}, {func(p *api.Policy) { p.Window = -1 }, false}, {func(p *api.Policy) { p.Window = 1<<40 + 1 }, false}, {func(p *api.Policy) { p.Lock = -1 }, false}, {func(p *api.Policy) { p.Lock = 1<<40 + 1 }, false}, {func(p *api.Policy) { p.Lock = 1 << 40; p.Window = 1 << 40 }, true},
	} {
		p := staff()
		x.change(&p)
		s, e := policy.Text(p)
		if policy.Valid(p) != x.valid {
			t.Error(i, p)
		}
		if x.valid {
			q, f := policy.Parse(s)
			if e != api.OK || f != api.OK || q != p {
				t.Error(i, s, e, f)
			}
			continue
		}
		r, f := policy.Check(p, api.Principal{}, []byte("x"))
		a, b, g := policy.Times(p, -1)
		if e != api.ErrArg || f != api.ErrArg || g != api.ErrArg || s != "" || r != 0 || a+b != 0 {
			t.Error(i, e, f, g)
		}
		for r := range policy.Broken(p, api.Principal{}, nil) {
			t.Error(i, r)
		}
	}
}

func TestClass(t *testing.T) {
	for c := range 256 {
		want := 5
		switch {
		case strings.Contains("abcdefghijklmnopqrstuvwxyz", string([]byte{byte(c)})):
			want = 1
		case strings.Contains("ABCDEFGHIJKLMNOPQRSTUVWXYZ", string([]byte{byte(c)})):
			want = 2
		case strings.Contains("0123456789", string([]byte{byte(c)})):
			want = 3
		case c >= 32 && c < 127:
			want = 4
		}
		if policy.Class(byte(c)) != want {
			t.Error(c, policy.Class(byte(c)))
		}
	}
}

func TestBroken(t *testing.T) {
	const short, long, control, classes, distinct, name, run = api.RuleShort, api.RuleLong, api.RuleControl, api.RuleClasses, api.RuleDistinct, api.RuleName, api.RuleRun
	alice := api.Principal{Parts: []string{"alice", "ab"}, Realm: "REALM"}
	for _, x := range []struct {
		password string
		want     []api.Rule
	}{
		{"Tr0ub4dor", nil}, {"Tr0ub4", []api.Rule{short}}, {"troubador1", []api.Rule{classes}}, {"xXaLICE9+", []api.Rule{name}}, {"Aa1abcdeX", []api.Rule{run}}, {"aaaaa", []api.Rule{short, classes, distinct, run}}, {"", []api.Rule{short, classes, distinct}},
		{"Aa1edcbaX", []api.Rule{run}}, {"Aa1abcdX4", nil}, {"Aa1edcbX4", nil}, {"Aa1xxxxX4", nil}, {"Aa1xxxxxX", []api.Rule{run}}, {"Tr0ub4do\x1f", []api.Rule{control}}, {"Tr0ub4do\x7f", []api.Rule{control}}, {"Tr0ub4do\x20", nil}, {"Tr0ub4do\xff", nil}, {"T9_aaTaa9", nil}, {"T9T9T9T9aaT", []api.Rule{distinct}}, {"T9abREALM", nil}, {"T9aliceREALM", []api.Rule{name}}, {"T9alicREALM", nil},
		{strings.Repeat("aB3.", 32), nil}, {strings.Repeat("aB3.", 32) + "x", []api.Rule{long}}, {strings.Repeat("a", 200), []api.Rule{long, classes, distinct, run}}, {"aB3\xfd\xfe\xff\x00\x01", []api.Rule{control}}, {"aB3xy\x03\x02\x01\x00\xff", []api.Rule{control}},
	} {
		b := []byte(x.password)
		broken := policy.Broken(staff(), alice, b)
		clear(b)
		for range 2 {
			if got := slices.Collect(broken); !slices.Equal(got, x.want) {
				t.Errorf("%q %v", x.password, got)
			}
		}
		for r := range broken {
			if r != x.want[0] {
				t.Error(r)
			}
			break
		}
		first := api.Rule(0)
		if len(x.want) > 0 {
			first = x.want[0]
		}
		if r, e := policy.Check(staff(), alice, []byte(x.password)); r != first || e != api.OK {
			t.Errorf("%q %v %v", x.password, r, e)
		}
	}
	p := staff()
	p.Name, p.Length, p.Classes, p.Distinct = "x", 1, 1, 0
	if r, e := policy.Check(p, api.Principal{Parts: []string{"ABC", ""}}, []byte("xabcx")); r != name || e != api.OK {
		t.Error(r, e)
	}
	if r, _ := policy.Check(p, api.Principal{Parts: []string{"É12"}}, []byte("é12")); r != 0 {
		t.Error(r)
	}
	p.Classes = 5
	if r, _ := policy.Check(p, api.Principal{}, []byte("aA1 \x80")); r != 0 {
		t.Error(r)
	}
}

func TestTimes(t *testing.T) {
	never, late := staff(), staff()
	never.MaxAge = 0
	late.MinAge, late.MaxAge = 1<<40, 1<<40
	for i, x := range []struct {
		p             api.Policy
		set           int
		from, expires int
		e             api.Errno
	}{{staff(), 100, 160, 700, api.OK}, {staff(), 0, 60, 600, api.OK}, {never, 100, 160, 0, api.OK}, {late, 1, 1 << 40, 1 << 40, api.OK}, {staff(), 1 << 40, 1 << 40, 1 << 40, api.OK}, {staff(), 1<<40 - 100, 1<<40 - 40, 1 << 40, api.OK}, {staff(), -1, 0, 0, api.ErrRange}, {staff(), 1<<40 + 1, 0, 0, api.ErrRange}} {
		if a, b, e := policy.Times(x.p, x.set); a != x.from || b != x.expires || e != x.e {
			t.Error(i, a, b, e)
		}
	}
}

func TestText(t *testing.T) {
	const text = "staff length=8 classes=3 distinct=4 history=2 age=60..600 fails=3 lock=300/900"
	if s, e := policy.Text(staff()); s != text || e != api.OK {
		t.Error(s, e)
	}
	if p, e := policy.Parse(text); p != staff() || e != api.OK {
		t.Error(p, e)
	}
	bad := []string{"", "staff", text + " ", " " + text, text + "/", text + "x", strings.Replace(text, "=8", "=08", 1), strings.Replace(text, "=8", "=+8", 1), strings.Replace(text, "=8", "=-8", 1), strings.Replace(text, "=8", "=", 1), strings.Replace(text, "=8", "=x", 1), strings.Replace(text, "=8", "=99999999999999999999", 1), strings.Replace(text, "=8", "=65", 1), strings.Replace(text, " ", "  ", 1), strings.Replace(text, "..", ".", 1), strings.Replace(text, "..", "...", 1), strings.Replace(text, "/900", "", 1), strings.Replace(text, "900", "-0", 1), strings.Replace(text, "classes", "class", 1), strings.Replace(text, "staff", "st aff", 1), strings.Replace(text, "staff", "", 1), strings.Replace(text, "600", "6", 1)}
	for _, s := range bad {
		if p, e := policy.Parse(s); p != (api.Policy{}) || e != api.ErrFormat {
			t.Error(s, p, e)
		}
	}
}
