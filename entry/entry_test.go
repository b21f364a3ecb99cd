package entry_test

import (
	"bytes"
	"slices"
	"strings"
	"testing"

	"watchword/api"
	"watchword/der"
	"watchword/entry"
	"watchword/name"
	"watchword/profile"
)

func principal(s string) api.Principal {
	p, e := name.Parse(s)
	if e != api.OK {
		panic(s)
	}
	return p
}

func fill(n int, b byte) []byte { return bytes.Repeat([]byte{b}, n) }

func first() api.KeySet {
	return api.KeySet{Version: 1, Keys: []api.Key{{Profile: 1, Version: 1, Bytes: fill(16, 1)}}, Salt: "Ra", Iterations: 4, Created: 10}
}

func second() api.KeySet {
	return api.KeySet{Version: 2, Keys: []api.Key{{Profile: 2, Version: 2, Bytes: fill(32, 2)}}, Created: 20}
}

// one returns the entry with one key set of the chapter's examples.
func one() api.Entry { return api.Entry{Name: principal("a@R"), Keys: []api.KeySet{first()}} }

func two() api.Entry {
	e := one()
	e.Keys = []api.KeySet{second(), first()}
	return e
}

// full returns an entry in which nothing is zero.
func full() api.Entry {
	return api.Entry{Name: principal("a/b@R"), Aliases: []api.Principal{principal("c@R"), principal("d/e@R")}, Attributes: 1<<10 - 1, Master: 5,
		Keys:   []api.KeySet{{Version: 65535, Keys: []api.Key{{Profile: 1, Version: 65535, Bytes: fill(256, 1)}, {Profile: 2, Version: 65535, Bytes: fill(1, 1)}}, Salt: strings.Repeat("\xff", 256), Iterations: 65536, Created: 1 << 40}, {Version: 3, Keys: []api.Key{{Profile: 2, Version: 3, Bytes: fill(48, 1)}}, Created: 5}},
		Policy: "p!~", Expires: 1, PasswordExpires: 2, MaxLife: 1 << 31, MaxRenew: 4, Fails: 65535, LastFail: 6, LastSuccess: 7,
		Targets: []api.Principal{principal("t@S")}, Delegates: []api.Principal{principal("u@T"), principal("v@R")}, History: [][]byte{fill(16, 3), fill(16, 3)}}
}

func names(n int, realm string) []api.Principal {
	var l []api.Principal
	for i := range n {
		l = append(l, principal("n"+string(rune('a'+i))+"@"+realm))
	}
	return l
}

type change struct {
	change func(*api.Entry)
	valid  bool
}

func changes() []change {
	return []change{
		{func(e *api.Entry) { e.Name = principal("x@R") }, true}, {func(e *api.Entry) { e.Name = api.Principal{} }, false}, {func(e *api.Entry) { e.Aliases = names(16, "R") }, true}, {func(e *api.Entry) { e.Aliases = names(17, "R") }, false}, {func(e *api.Entry) { e.Aliases = names(1, "S") }, false}, {func(e *api.Entry) { e.Aliases = []api.Principal{principal("x@R"), principal("x@R")} }, false}, {func(e *api.Entry) { e.Aliases = []api.Principal{name.Copy(e.Name)} }, false}, {func(e *api.Entry) { e.Aliases = []api.Principal{{Realm: "R"}} }, false},
		{func(e *api.Entry) { e.Attributes ^= 512 }, true}, {func(e *api.Entry) { e.Attributes = 1024 }, false}, {func(e *api.Entry) { e.Master = 65536 }, false}, {func(e *api.Entry) { e.Master = -1 }, false}, {func(e *api.Entry) { e.Master = 65535 }, true},
		{func(e *api.Entry) { e.Policy = "q" }, true}, {func(e *api.Entry) { e.Policy = "a b" }, false}, {func(e *api.Entry) { e.Policy = "\x7f" }, false}, {func(e *api.Entry) { e.Policy = strings.Repeat("p", 32) }, true}, {func(e *api.Entry) { e.Policy = strings.Repeat("p", 33) }, false},
		{func(e *api.Entry) { e.Expires = 1 << 40 }, true}, {func(e *api.Entry) { e.Expires = 1<<40 + 1 }, false}, {func(e *api.Entry) { e.Expires = -1 }, false}, {func(e *api.Entry) { e.PasswordExpires = 99 }, true}, {func(e *api.Entry) { e.PasswordExpires = -1 }, false}, {func(e *api.Entry) { e.MaxLife = 99 }, true}, {func(e *api.Entry) { e.MaxLife = 1<<31 + 1 }, false}, {func(e *api.Entry) { e.MaxLife = -1 }, false}, {func(e *api.Entry) { e.MaxRenew = 99 }, true}, {func(e *api.Entry) { e.MaxRenew = 1<<31 + 1 }, false},
		{func(e *api.Entry) { e.Fails = 9 }, true}, {func(e *api.Entry) { e.Fails = 65536 }, false}, {func(e *api.Entry) { e.Fails = -1 }, false}, {func(e *api.Entry) { e.LastFail = 99 }, true}, {func(e *api.Entry) { e.LastFail = -1 }, false}, {func(e *api.Entry) { e.LastSuccess = 99 }, true}, {func(e *api.Entry) { e.LastSuccess = 1<<40 + 1 }, false},
		{func(e *api.Entry) { e.Targets = names(16, "X") }, true}, {func(e *api.Entry) { e.Targets = names(17, "X") }, false}, {func(e *api.Entry) { e.Targets = append(names(1, "X"), names(1, "X")...) }, false}, {func(e *api.Entry) { e.Targets = make([]api.Principal, 1) }, false}, {func(e *api.Entry) { e.Delegates = names(16, "X") }, true}, {func(e *api.Entry) { e.Delegates = names(17, "X") }, false}, {func(e *api.Entry) { e.Delegates = append(names(1, "X"), names(1, "X")...) }, false},
		{func(e *api.Entry) { e.History = slices.Repeat([][]byte{fill(16, 1)}, 16) }, true}, {func(e *api.Entry) { e.History = slices.Repeat([][]byte{fill(16, 1)}, 17) }, false}, {func(e *api.Entry) { e.History = [][]byte{fill(15, 1)} }, false},
		{func(e *api.Entry) { e.Keys = nil }, true}, {func(e *api.Entry) { e.Keys[0].Version = 0; e.Keys[0].Keys[0].Version = 0 }, false}, {func(e *api.Entry) { e.Keys[0].Keys[0].Version = 9 }, false}, {func(e *api.Entry) { e.Keys[0].Keys = nil }, false}, {func(e *api.Entry) { e.Keys[0].Keys[0].Profile = 3 }, false}, {func(e *api.Entry) { e.Keys[0].Keys = append(e.Keys[0].Keys, e.Keys[0].Keys[0]) }, false}, {func(e *api.Entry) { e.Keys[0].Keys[0].Bytes = nil }, false}, {func(e *api.Entry) { e.Keys[0].Keys[0].Bytes = fill(257, 1) }, false},
		{func(e *api.Entry) { e.Keys[0].Salt = strings.Repeat("s", 257) }, false}, {func(e *api.Entry) { e.Keys[0].Salt = "other" }, true}, {func(e *api.Entry) { e.Keys[0].Salt = "x"; e.Keys[0].Iterations = 0 }, false}, {func(e *api.Entry) { e.Keys[0].Iterations = 65537 }, false}, {func(e *api.Entry) { e.Keys[0].Iterations = -1; e.Keys[0].Salt = "" }, false}, {func(e *api.Entry) { e.Keys[0].Created = 1<<40 + 1 }, false}, {func(e *api.Entry) { e.Keys[0].Created = 99 }, true},
		{func(e *api.Entry) { e.Keys = append(e.Keys, e.Keys[len(e.Keys)-1]) }, false}, {func(e *api.Entry) {
			s := first()
			s.Version, s.Keys[0].Version, s.Created = 1, 1, 1<<40
			e.Keys = append(e.Keys, s)
		}, false},
	}
}

func TestValues(t *testing.T) {
	for b, base := range []func() api.Entry{one, full} {
		if !entry.Valid(base()) || !entry.Equal(base(), base()) {
			t.Error("base", b)
		}
		for i, x := range changes() {
			e := base()
			x.change(&e)
			c := entry.Copy(e)
			if entry.Equal(e, base()) || !entry.Equal(e, c) {
				t.Error(b, i, "equal")
			}
			valid := x.valid
			if entry.Valid(e) != valid {
				t.Error(b, i, "valid", valid)
				continue
			}
			d, f := entry.Encode(e)
			if !valid {
				_, g := entry.Current(e)
				_, h := entry.Find(e, 0, 0)
				_, k := entry.Add(e, second())
				_, l := entry.Without(e, 1)
				_, m := entry.Offer(e)
				if f != api.ErrArg || g != api.ErrArg || h != api.ErrArg || k != api.ErrArg || l != api.ErrArg || m != api.ErrArg || len(d) != 0 {
					t.Error(b, i, f, g, h, k, l, m)
				}
				continue
			}
			back, g := entry.Decode(d)
			again, _ := entry.Encode(back)
			if f != api.OK || g != api.OK || !entry.Equal(e, back) || !bytes.Equal(d, again) {
				t.Error(b, i, f, g)
			}
		}
	}
	e := full()
	c := entry.Copy(e)
	c.Name.Parts[0], c.Aliases[0].Parts[0], c.Keys[0].Keys[0].Bytes[0], c.Keys[0].Version, c.Targets[0].Parts[0], c.Delegates[0].Parts[0], c.History[0][0] = "x", "x", 9, 9, "x", "x", 9
	if !entry.Equal(e, full()) {
		t.Error("shared")
	}
	unwrapped := one()
	unwrapped.Keys[0].Keys[0].Bytes = fill(17, 1)
	if entry.Valid(unwrapped) {
		t.Error("a key of 17 bytes")
	}
	unwrapped.Master = 1
	if !entry.Valid(unwrapped) {
		t.Error("a wrapped key of 17 bytes")
	}
	many := one()
	many.Keys = nil
	for i := range 17 {
		s := first()
		s.Version, s.Keys[0].Version = i+1, i+1
		many.Keys = append([]api.KeySet{s}, many.Keys...)
	}
	if entry.Valid(many) {
		t.Error("17 key sets")
	}
	many.Keys = many.Keys[1:]
	if !entry.Valid(many) {
		t.Error("16 key sets")
	}
	s := first()
	s.Version, s.Keys[0].Version = 20, 20
	if _, e := entry.Add(many, s); e != api.ErrFull {
		t.Error(e)
	}
}

func elements(l ...[]byte) []byte {
	var all [][]byte
	for i, e := range l {
		all = append(all, der.Tagged(i, e))
	}
	return der.Sequence(all...)
}

func TestEncoding(t *testing.T) {
	b, e := entry.Encode(one())
	n, _ := name.Encode(principal("a@R"))
	set := elements(der.Integer(1), der.Sequence(der.Key(first().Keys[0])), der.String("Ra"), der.Integer(4), der.Time(10))
	l := [][]byte{n, nil, der.Bits(0), nil, der.Sequence(set)}
	if !bytes.Equal(b, elements(l...)) || len(b) != 95 || e != api.OK {
		t.Error(b, e)
	}
	bad := [][]byte{nil, append(bytes.Clone(b), 0), {0x30, 0}}
	for i := range b {
		bad = append(bad, b[:i])
	}
	zeros := [][]byte{nil, der.Sequence(), nil, der.Integer(0), der.Sequence(), der.String(""), der.Time(0), der.Time(0), der.Integer(0), der.Integer(0), der.Integer(0), der.Time(0), der.Time(0), der.Sequence(), der.Sequence(), der.Sequence(), der.Bool(true)}
	for i, z := range zeros {
		changed := make([][]byte, 17)
		copy(changed, l)
		changed[i] = z
		bad = append(bad, elements(changed...))
	}
	sets := [][]byte{elements(der.Integer(1), der.Sequence(der.Key(first().Keys[0])), der.String(""), nil, der.Time(10)), elements(der.Integer(1), der.Sequence(der.Key(first().Keys[0])), nil, der.Integer(0), der.Time(10)), elements(der.Integer(1), der.Sequence(), nil, nil, der.Time(10)), elements(der.Integer(1), der.Sequence(der.Key(first().Keys[0])), nil, nil), elements(der.Integer(1), der.Sequence(der.Key(first().Keys[0])), nil, nil, der.Time(10), der.Bool(true))}
	for _, s := range sets {
		bad = append(bad, elements(n, nil, der.Bits(0), nil, der.Sequence(s)))
	}
	for i, x := range bad {
		if v, e := entry.Decode(x); e != api.ErrFormat || len(v.Keys) != 0 || v.Name.Realm != "" {
			t.Error(i, e)
		}
	}
	if _, e := entry.Decode(elements(n, nil, der.Bits(0), nil, der.Sequence(elements(der.Integer(1), der.Sequence(der.Key(first().Keys[0])), nil, nil, der.Time(10))))); e != api.OK {
		t.Error(e)
	}
}

func TestKeys(t *testing.T) {
	f := two()
	for i, x := range []struct {
		version, profile int
		want             int
		e                api.Errno
	}{{0, 0, 32, api.OK}, {1, 0, 16, api.OK}, {1, 1, 16, api.OK}, {1, 2, 0, api.ErrNone}, {3, 0, 0, api.ErrNone}, {2, 2, 32, api.OK}, {0, 2, 32, api.OK}, {0, 1, 0, api.ErrNone}, {-1, 0, 0, api.ErrArg}, {0, -1, 0, api.ErrArg}} {
		if k, e := entry.Find(f, x.version, x.profile); len(k.Bytes) != x.want || e != x.e {
			t.Error(i, k, e)
		}
	}
	empty := api.Entry{Name: principal("a@R")}
	_, e1 := entry.Find(empty, 0, 0)
	_, e2 := entry.Current(empty)
	_, e3 := entry.Without(empty, 0)
	if e1 != api.ErrNone || e2 != api.ErrNone || e3 != api.ErrNone {
		t.Error(e1, e2, e3)
	}
	c, e := entry.Current(f)
	if c.Version != 2 || !profile.Equal(c.Keys[0], second().Keys[0]) || e != api.OK {
		t.Error(c, e)
	}
	c.Keys[0].Bytes[0] = 99
	k, _ := entry.Find(f, 0, 0)
	k.Bytes[0] = 99
	if !entry.Equal(f, two()) {
		t.Error("shared")
	}
	added, e := entry.Add(one(), second())
	without, g := entry.Without(added, 2)
	last, h := entry.Without(added, 1)
	if !entry.Equal(added, two()) || !entry.Equal(without, one()) || len(last.Keys) != 1 || last.Keys[0].Version != 2 || e != api.OK || g != api.OK || h != api.OK {
		t.Error(e, g, h)
	}
	if x, e := entry.Add(empty, first()); !entry.Equal(x, one()) || e != api.OK {
		t.Error(x, e)
	}
	early, odd := second(), second()
	early.Created = 9
	odd.Keys[0].Bytes = fill(31, 1)
	for i, x := range []struct {
		set  api.KeySet
		want api.Errno
	}{{first(), api.ErrBusy}, {api.KeySet{}, api.ErrBusy}, {early, api.ErrArg}, {odd, api.ErrArg}} {
		if v, e := entry.Add(one(), x.set); e != x.want || len(v.Keys) != 0 {
			t.Error(i, e)
		}
	}
	if _, e := entry.Without(f, 3); e != api.ErrNone {
		t.Error(e)
	}
}

func TestNames(t *testing.T) {
	e := full()
	all := entry.Names(e)
	e.Name.Parts[0], e.Aliases[0].Parts[0] = "x", "x"
	for range 2 {
		s := ""
		for p := range all {
			text, _ := name.Text(p)
			s += text + " "
			p.Parts[0] = "y"
		}
		if s != "a/b@R c@R d/e@R " {
			t.Error(s)
		}
	}
	for p := range all {
		if p.Parts[0] != "a" {
			t.Error(p)
		}
		break
	}
	n := 0
	for range entry.Names(api.Entry{}) {
		n++
	}
	if n != 1 {
		t.Error(n)
	}
}

func TestOffers(t *testing.T) {
	l, e := entry.Offer(one())
	b, f := entry.EncodeOffer(l)
	want := []byte{0x30, 0x12, 0x30, 0x10, 0xa0, 3, 2, 1, 1, 0xa1, 4, 0x1b, 2, 0x52, 0x61, 0xa2, 3, 2, 1, 4}
	if len(l) != 1 || l[0] != (api.Salt{Profile: 1, Salt: "Ra", Iterations: 4}) || !bytes.Equal(b, want) || e != api.OK || f != api.OK {
		t.Error(l, b, e, f)
	}
	if l, e := entry.Offer(full()); len(l) != 2 || l[1].Profile != 2 || l[1].Iterations != 65536 || e != api.OK {
		t.Error(l, e)
	}
	if l, e := entry.Offer(api.Entry{Name: principal("a@R")}); len(l) != 0 || e != api.OK {
		t.Error(l, e)
	}
	for _, l := range [][]api.Salt{nil, {{Profile: 2}}, {{Profile: 1, Salt: strings.Repeat("\x00", 256), Iterations: 65536}, {Profile: 2, Salt: "x"}}} {
		b, e := entry.EncodeOffer(l)
		d, f := entry.DecodeOffer(b)
		if e != api.OK || f != api.OK || !slices.Equal(l, d) {
			t.Error(l, d, e, f)
		}
		if _, f := entry.DecodeOffer(append(b, 0)); f != api.ErrFormat {
			t.Error(f)
		}
	}
	for i, l := range [][]api.Salt{{{}}, {{Profile: 3}}, {{Profile: 2}, {Profile: 1}}, {{Profile: 1}, {Profile: 1}}, {{Profile: 1, Iterations: -1}}, {{Profile: 1, Iterations: 65537}}, {{Profile: 1, Salt: strings.Repeat("s", 257)}}} {
		var all [][]byte
		for _, s := range l {
			all = append(all, elements(der.Integer(s.Profile), der.String(s.Salt), der.Integer(s.Iterations)))
		}
		b, e := entry.EncodeOffer(l)
		d, f := entry.DecodeOffer(der.Sequence(all...))
		if e != api.ErrArg || f != api.ErrFormat || len(b)+len(d) != 0 {
			t.Error(i, e, f)
		}
	}
	for i, b := range [][]byte{nil, {0x31, 0}, der.Sequence(elements(der.Integer(1), der.String(""))), der.Sequence(elements(der.Integer(1), der.String(""), der.Integer(0), der.Bool(true))), der.Sequence(der.Integer(1))} {
		if d, e := entry.DecodeOffer(b); e != api.ErrFormat || len(d) != 0 {
			t.Error(i, e)
		}
	}
}
