package name_test

import (
	"bytes"
	"encoding/hex"
	"slices"
	"strings"
	"testing"

	"watchword/api"
	"watchword/der"
	"watchword/name"
)

func principal(realm string, parts ...string) api.Principal {
	return api.Principal{Parts: parts, Realm: realm}
}

func raw(s string) []byte {
	b, err := hex.DecodeString(strings.ReplaceAll(s, " ", ""))
	if err != nil {
		panic(err)
	}
	return b
}

var (
	long    = strings.Repeat("A", 32)
	valid   = []api.Principal{principal("X", "a"), principal("X.Y", "a", "b"), principal("X", "a/b"), principal("A-9.-", "!", "~", "\\@/", "z"), principal(long, long, long, long, long)}
	invalid = []api.Principal{{}, principal("X"), principal("", "a"), principal("x", "a"), principal("X.", "a"), principal(".X", "a"), principal("X..Y", "a"), principal(long+"A", "a"), principal("X", ""), principal("X", "a", ""), principal("X", "a b"), principal("X", "a\x7f"), principal("X", "a\x20"), principal("X", "é"), principal("X", long+"A"), principal("X", "a", "b", "c", "d", "e"), principal("X_", "a"), principal("X@", "a"), principal("X/Y", "a"), principal("[", "a"), principal("É", "a")}
)

func TestValid(t *testing.T) {
	for _, p := range valid {
		if !name.Valid(p) || !name.Realm(p.Realm) || !name.Part(p.Parts[0]) {
			t.Error(p)
		}
	}
	for _, p := range invalid {
		if name.Valid(p) {
			t.Error(p)
		}
		_, e := name.Text(p)
		b, f := name.Encode(p)
		if e != api.ErrArg || f != api.ErrArg || len(b) != 0 {
			t.Error(p, e, f)
		}
	}
	for c := range 256 {
		s := string([]byte{byte(c)})
		if name.Part(s) != (c >= 0x21 && c <= 0x7e) || name.Realm(s) != strings.Contains("ABCDEFGHIJKLMNOPQRSTUVWXYZ0123456789-", s) {
			t.Error(c)
		}
	}
}

func TestTextParse(t *testing.T) {
	for i, want := range []string{"a@X", "a/b@X.Y", `a\/b@X`, `!/~/\\\@\//z@A-9.-`} {
		s, e := name.Text(valid[i])
		p, f := name.Parse(want)
		if s != want || e != api.OK || f != api.OK || !name.Equal(p, valid[i]) {
			t.Error(s, p, e, f)
		}
	}
	for _, s := range []string{"", "@", "a", "a@", "@X", "a@x", "a//b@X", "/a@X", "a/@X", "a@X@Y", "a@X/b", `a\b@X`, `a\@X`, `a@X\`, `a\`, "a b@X", "a/b/c/d/e@X", "a@X ", " a@X", "a@X.", "a\x00@X", long + "A@X", "a@" + long + "A", `a@X\.Y`, "é@X"} {
		if p, e := name.Parse(s); e != api.ErrFormat || len(p.Parts) != 0 || p.Realm != "" {
			t.Error(s, p, e)
		}
	}
}

func TestOrder(t *testing.T) {
	l := []api.Principal{{}, principal("", "a"), principal("A", "z"), principal("B"), principal("B", "", "z"), principal("B", "a"), principal("B", "a", "a"), principal("B", "a", "b"), principal("B", "aa"), principal("B", "b"), principal("a", "A")}
	for i, a := range l {
		for j, b := range l {
			want := 0
			if i < j {
				want = -1
			} else if i > j {
				want = 1
			}
			if name.Compare(a, b) != want || name.Equal(a, b) != (i == j) {
				t.Error(a, b, name.Compare(a, b))
			}
		}
		c := name.Copy(a)
		if !name.Equal(a, c) {
			t.Error(a, c)
		}
		if len(c.Parts) > 0 {
			c.Parts[0] = "changed"
			if a.Parts[0] == "changed" {
				t.Error("shared")
			}
		}
	}
}

func TestEncodeDecode(t *testing.T) {
	for _, p := range valid {
		b, e := name.Encode(p)
		q, f := name.Decode(b)
		if e != api.OK || f != api.OK || !name.Equal(p, q) {
			t.Error(p, q, e, f)
		}
		r := der.New(append(bytes.Clone(b), 1, 1, 0))
		q, f = name.Read(r)
		if f != api.OK || !name.Equal(p, q) || r.Left() != 3 {
			t.Error(p, q, f)
		}
		if q, f = name.Decode(append(b, 0)); f != api.ErrLong || q.Realm != "" {
			t.Error(p, f)
		}
		for i := range b {
			if _, f = name.Decode(b[:i]); f != api.ErrShort {
				t.Error(p, i, f)
			}
		}
	}
	if b, _ := name.Encode(valid[0]); !bytes.Equal(b, raw("30 0C A0 05 30 03 1B 01 61 A1 03 1B 01 58")) {
		t.Error(b)
	}
	for s, want := range map[string]api.Errno{
		"": api.ErrShort, "31 00": api.ErrFormat, "30 00": api.ErrShort, "30 05 A1 03 1B 01 58": api.ErrFormat, "30 02 A0 00": api.ErrShort, "30 05 A0 03 1B 01 61": api.ErrFormat,
		"30 0A A0 08 30 03 1B 01 61 1B 01 61": api.ErrFormat, "30 07 A0 05 30 03 1B 01 61": api.ErrShort, "30 07 A0 05 30 03 04 01 61": api.ErrFormat, "30 0C A0 05 30 03 04 01 61 A1 03 04 01 58": api.ErrFormat,
		"30 0C A0 05 30 03 1B 01 61 A2 03 1B 01 58": api.ErrFormat, "30 09 A0 05 30 03 1B 01 61 A1 00": api.ErrShort, "30 0C A0 05 30 03 1B 01 61 A1 03 04 01 58": api.ErrFormat, "30 0D A0 05 30 03 1B 01 61 A1 04 1B 01 58 00": api.ErrFormat,
		"30 0F A0 05 30 03 1B 01 61 A1 03 1B 01 58 01 01 00": api.ErrFormat, "30 0C A0 05 30 03 1B 01 61 A1 03 1B 01 78": api.ErrFormat, "30 0C A0 05 30 03 1B 01 20 A1 03 1B 01 58": api.ErrFormat, "30 09 A0 02 30 00 A1 03 1B 01 58": api.ErrFormat, "30 0C A0 05 30 03 1B 01 20 A1 03 1B 01 58 00": api.ErrFormat,
	} {
		b := raw(s)
		r := der.New(b)
		p, e := name.Read(r)
		_, f := name.Decode(b)
		if e != want || f != want || r.Left() != len(b) || len(p.Parts) != 0 {
			t.Error(s, p, e, f, r.Left())
		}
	}
	for _, r := range []*der.Reader{nil, {}} {
		if p, e := name.Read(r); e != api.ErrNil || p.Realm != "" {
			t.Error(p, e)
		}
	}
}

func TestGranting(t *testing.T) {
	p, e := name.TicketGranting("B.C", "A")
	s, _ := name.Text(p)
	to, ok := name.Target(p)
	if s != "krbtgt/B.C@A" || to != "B.C" || !ok || e != api.OK {
		t.Error(s, to, ok, e)
	}
	for _, x := range [][2]string{{"", "A"}, {"A", ""}, {"a", "A"}, {"A", "a"}} {
		if p, e := name.TicketGranting(x[0], x[1]); e != api.ErrArg || p.Realm != "" || len(p.Parts) != 0 {
			t.Error(x, p, e)
		}
	}
	for _, p := range append(invalid, principal("A", "a"), principal("A", "krbtgt"), principal("A", "krbtgt", "b"), principal("A", "krbtgt", "B", "C"), principal("A", "krbtgt2", "B"), principal("a", "krbtgt", "B"), principal("A", "B", "krbtgt")) {
		if to, ok := name.Target(p); to != "" || ok {
			t.Error(p, to)
		}
	}
}

func TestParents(t *testing.T) {
	for realm, want := range map[string][]string{"A.B.C": {"B.C", "C"}, "A": nil, "A.B": {"B"}, "a.B": nil, "A..B": nil, "": nil, ".A": nil} {
		parents := name.Parents(realm)
		for range 2 {
			if got := slices.Collect(parents); !slices.Equal(got, want) {
				t.Error(realm, got)
			}
		}
		for p := range parents {
			if p != want[0] {
				t.Error(p)
			}
			break
		}
	}
}
