package logline_test

import (
	"maps"
	"math/rand"
	"strconv"
	"strings"
	"testing"

	"watchword/api"
	"watchword/logline"
	"watchword/name"
)

func principal(s string) api.Principal {
	p, e := name.Parse(s)
	if e != api.OK {
		panic(s)
	}
	return p
}

func ip(last byte) api.Address { return api.Address{Kind: 2, Bytes: []byte{10, 0, 0, last}} }

func fact() api.Fact {
	return api.Fact{Time: 100, Micro: 5, Kind: api.RequestInitial, From: ip(1), Client: principal("u@R"), Service: principal("krbtgt/R@R"), PreAuth: 2, Flags: api.FlagForwardable | api.FlagInitial}
}

// failed returns a failure of a client from an address.
func failed(client string, from byte, time int) api.Fact {
	f := fact()
	f.Client, f.From, f.Time, f.Code, f.PreAuth, f.Flags = principal(client), ip(from), time, 24, 0, 0
	return f
}

func equal(a, b api.Fact) bool {
	x, e := logline.Text(a)
	y, f := logline.Text(b)
	return x == y && e == api.OK && f == api.OK
}

func TestText(t *testing.T) {
	const line = "100.000005 initial u@R krbtgt/R@R 10.0.0.1 0 2 forwardable,initial"
	if s, e := logline.Text(fact()); s != line || e != api.OK {
		t.Error(s, e)
	}
	for i, v := range []struct {
		change func(*api.Fact)
		want   string
	}{
		{func(f *api.Fact) { f.Time = 1 << 40 }, "1099511627776.000005 initial"}, {func(f *api.Fact) { f.Micro = 999999 }, "100.999999 initial"}, {func(f *api.Fact) { f.Kind = 0 }, ".000005 other u@R"}, {func(f *api.Fact) { f.Kind = 12 }, " grant "}, {func(f *api.Fact) { f.Client = api.Principal{} }, " initial - krbtgt"}, {func(f *api.Fact) { f.Service = api.Principal{} }, " u@R - 10"}, {func(f *api.Fact) { f.From = api.Address{Kind: 20, Bytes: []byte("console")} }, " host/console "}, {func(f *api.Fact) { f.Code = 127 }, " 127 2 "}, {func(f *api.Fact) { f.PreAuth = 999 }, " 0 999 "}, {func(f *api.Fact) { f.Flags = 0 }, " 0 2 -"},
		{func(f *api.Fact) { f.Time = -1 }, ""}, {func(f *api.Fact) { f.Time = 1<<40 + 1 }, ""}, {func(f *api.Fact) { f.Micro = 1000000 }, ""}, {func(f *api.Fact) { f.Micro = -1 }, ""}, {func(f *api.Fact) { f.Kind = 11 }, ""}, {func(f *api.Fact) { f.From = api.Address{} }, ""}, {func(f *api.Fact) { f.Client = api.Principal{Realm: "R"} }, ""}, {func(f *api.Fact) { f.Service.Realm = "r" }, ""}, {func(f *api.Fact) { f.Code = 128 }, ""}, {func(f *api.Fact) { f.Code = -1 }, ""}, {func(f *api.Fact) { f.PreAuth = 1000 }, ""}, {func(f *api.Fact) { f.PreAuth = -1 }, ""}, {func(f *api.Fact) { f.Flags = api.OptionRenew }, ""},
	} {
		f := fact()
		v.change(&f)
		s, e := logline.Text(f)
		_, g := logline.Log([]api.Fact{fact(), f})
		_, h := logline.Clients([]api.Fact{f}, 1, 1)
		_, k := logline.Addresses([]api.Fact{f}, 1, 1)
		if ok := v.want != ""; logline.Valid(f) != ok || ok != (e == api.OK) || ok != (g == api.OK) || ok != (h == api.OK) || ok != (k == api.OK) || !strings.Contains(s, v.want) || !ok && (s != "" || e != api.ErrArg || g != api.ErrArg || h != api.ErrArg || k != api.ErrArg) {
			t.Error(i, s, e, g, h, k)
		}
		if e == api.OK {
			if p, e := logline.Parse(s); e != api.OK || !equal(p, f) {
				t.Error(i, p, e)
			}
		}
	}
	for _, s := range []string{"", line + " ", " " + line, line + " x", strings.Replace(line, " ", "  ", 1), strings.Replace(line, "100.", "0100.", 1), strings.Replace(line, "000005", "5", 1), strings.Replace(line, ".000005", "", 1), strings.Replace(line, "000005", "0000050", 1), strings.Replace(line, "initial", "Initial", 1), strings.Replace(line, "u@R", "u", 1), strings.Replace(line, "10.0.0.1", "10.0.0.256", 1), strings.Replace(line, " 0 2", " 00 2", 1), strings.Replace(line, " 0 2", " 0 x", 1), strings.Replace(line, " 0 2", " +0 2", 1), strings.Replace(line, "forwardable,initial", "initial,forwardable", 1), strings.Replace(line, "forwardable,initial", "renew", 1), line + "\n"} {
		if f, e := logline.Parse(s); e != api.ErrFormat || f.Time != 0 || f.Kind != 0 {
			t.Error(s, e)
		}
	}
}

func TestLog(t *testing.T) {
	l := []api.Fact{fact(), failed("v@R", 2, 5), fact()}
	s, e := logline.Log(l)
	back, n, f := logline.ParseLog(s)
	if e != api.OK || f != api.OK || n != 0 || len(back) != 3 || !equal(back[1], l[1]) || strings.Count(s, "\n") != 3 || !strings.HasSuffix(s, "\n") {
		t.Error(s, n, e, f)
	}
	if again, _ := logline.Log(back); again != s {
		t.Error(again)
	}
	line, _ := logline.Text(fact())
	for i, v := range []struct {
		s    string
		n    int
		want api.Errno
	}{{"", 0, api.OK}, {line + "\n" + line, 2, api.ErrFormat}, {line, 1, api.ErrFormat}, {"\n", 1, api.ErrFormat}, {line + "\n\n" + line + "\n", 2, api.ErrFormat}, {line + "\n" + line + "\nx\ny\n", 3, api.ErrFormat}, {line + "\r\n", 1, api.ErrFormat}, {"x", 1, api.ErrFormat}} {
		if l, n, e := logline.ParseLog(v.s); n != v.n || e != v.want || len(l) != 0 {
			t.Error(i, n, e)
		}
	}
}

// text returns alarms as a string.
func text(l []api.Alarm) string {
	s := ""
	for _, a := range l {
		for _, part := range a.Client.Parts {
			s += part
		}
		for _, b := range a.From.Bytes {
			s += strconv.Itoa(int(b)) + "."
		}
		s += " " + strconv.Itoa(a.Count) + " " + strconv.Itoa(a.First) + "-" + strconv.Itoa(a.Last) + ";"
	}
	return s
}

func TestAlarms(t *testing.T) {
	g := []api.Fact{failed("u@R", 1, 103), failed("u@R", 1, 103), failed("u@R", 1, 109)}
	plain := fact()
	plain.Time = 200
	other := failed("u@R", 1, 300)
	other.Kind = api.RequestGrant
	none := failed("u@R", 1, 301)
	none.Client = api.Principal{}
	mixed := []api.Fact{failed("a@R", 1, 10), failed("b@R", 2, 11), failed("b@R", 2, 12), failed("a@R", 1, 14), failed("c@R", 1, 15), failed("b@R", 1, 16), failed("a@R", 1, 17)}
	for i, v := range []struct {
		l             []api.Fact
		window, limit int
		clients, from string
	}{
		{g, 5, 2, "u 2 103-103;", ""}, {g, 5, 3, "", ""}, {g, 6, 3, "u 3 103-109;", ""}, {g, 6, 1, "u 1 103-103;", "10.0.0.1. 1 103-103;"}, {g, 0, 2, "u 2 103-103;", ""}, {nil, 5, 1, "", ""}, {[]api.Fact{plain, other, none}, 500, 1, "", ""},
		{mixed, 3, 2, "b 2 11-12;a 2 14-17;", "10.0.0.1. 2 14-15;"}, {mixed, 3, 3, "", "10.0.0.1. 3 14-16;"}, {mixed, 100, 3, "b 3 11-16;a 3 10-17;", "10.0.0.1. 3 10-16;"}, {mixed, 100, 1, "a 1 10-10;b 1 11-11;c 1 15-15;", "10.0.0.1. 1 10-10;10.0.0.2. 1 11-11;"}, {mixed, 1 << 40, 4, "", ""},
	} {
		c, e := logline.Clients(v.l, v.window, v.limit)
		a, f := logline.Addresses(v.l, v.window, v.limit)
		if text(c) != v.clients || text(a) != v.from || e != api.OK || f != api.OK {
			t.Error(i, text(c), text(a), e, f)
		}
	}
	early, late := failed("u@R", 1, 103), failed("u@R", 1, 104)
	early.Micro, late.Micro = 4, 0
	if c, e := logline.Clients([]api.Fact{g[0], late}, 5, 2); text(c) != "u 2 103-104;" || e != api.OK {
		t.Error(text(c), e)
	}
	for i, v := range []struct {
		l             []api.Fact
		window, limit int
	}{{g, -1, 1}, {g, 1<<40 + 1, 1}, {g, 5, 0}, {g, 5, -1}, {[]api.Fact{g[2], g[0]}, 5, 1}, {[]api.Fact{g[0], early}, 5, 1}} {
		c, e := logline.Clients(v.l, v.window, v.limit)
		a, f := logline.Addresses(v.l, v.window, v.limit)
		if e != api.ErrArg || f != api.ErrArg || len(c)+len(a) != 0 {
			t.Error(i, e, f)
		}
	}
}

func TestMonotone(t *testing.T) {
	r := rand.New(rand.NewSource(1))
	for range 100 {
		var l []api.Fact
		time := 0
		for range 30 {
			time += r.Intn(4)
			l = append(l, failed(string(rune('a'+r.Intn(4)))+"@R", byte(r.Intn(3)), time))
		}
		for _, alarms := range []func([]api.Fact, int, int) ([]api.Alarm, api.Errno){logline.Clients, logline.Addresses} {
			wide, _ := alarms(l, 9, 3)
			narrow, _ := alarms(l, 5, 3)
			high, _ := alarms(l, 9, 4)
			if len(narrow) > len(wide) || len(high) > len(wide) {
				t.Fatal(len(wide), len(narrow), len(high))
			}
		}
	}
}

func TestActivities(t *testing.T) {
	grant := fact()
	grant.Kind, grant.PreAuth, grant.Time, grant.From = api.RequestGrant, 1, 150, ip(2)
	unauthenticated := fact()
	unauthenticated.PreAuth, unauthenticated.Time = 0, 160
	other := fact()
	other.Kind, other.Time = 0, 170
	none := fact()
	none.Client = api.Principal{}
	invalid := fact()
	invalid.Client, invalid.From, invalid.Time = api.Principal{Realm: "A"}, api.Address{}, -5
	alone := other
	alone.Client = principal("z@R")
	l := []api.Fact{fact(), failed("u@R", 1, 120), grant, unauthenticated, other, none, invalid, failed("a@R", 1, 130), alone}
	activities := logline.Activities(l)
	l[0].Client.Parts[0] = "changed"
	want := []api.Activity{{Client: api.Principal{Realm: "A"}, Requests: 1, Successes: 1, Addresses: 1, First: -5, Last: -5}, {Client: principal("a@R"), Requests: 1, Addresses: 1, First: 130, Last: 130}, {Client: principal("u@R"), Requests: 4, Successes: 3, Plain: 1, Addresses: 2, First: 100, Last: 160}}
	for range 2 {
		i := 0
		for a := range activities {
			w := want[i]
			if !name.Equal(a.Client, w.Client) || a.Requests != w.Requests || a.Successes != w.Successes || a.Plain != w.Plain || a.Addresses != w.Addresses || a.First != w.First || a.Last != w.Last {
				t.Error(a, w)
			}
			if len(a.Client.Parts) > 0 {
				a.Client.Parts[0] = "x"
			}
			i++
		}
		if i != 3 {
			t.Error(i)
		}
	}
	for range activities {
		break
	}
	if got := logline.Codes(l); !maps.Equal(got, map[int]int{0: 7, 24: 2}) {
		t.Error(got)
	}
	if got := logline.Codes([]api.Fact{{Code: -7}, {Code: 500}, {Code: -7}}); !maps.Equal(got, map[int]int{-7: 2, 500: 1}) {
		t.Error(got)
	}
	if len(logline.Codes(nil)) != 0 {
		t.Error("nothing")
	}
}
