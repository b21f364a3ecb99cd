package der_test

import (
	"bytes"
	"encoding/hex"
	"slices"
	"strings"
	"testing"

	"watchword/api"
	"watchword/der"
)

// raw returns the bytes of hexadecimal digits, with spaces.
func raw(s string) []byte {
	b, err := hex.DecodeString(strings.ReplaceAll(s, " ", ""))
	if err != nil {
		panic(err)
	}
	return b
}

func same(t *testing.T, name string, got []byte, want string) {
	t.Helper()
	if !bytes.Equal(got, raw(want)) {
		t.Errorf("%s: % x, not %s", name, got, want)
	}
}

func TestWrite(t *testing.T) {
	same(t, "bool", der.Bool(true), "01 01 FF")
	same(t, "bool", der.Bool(false), "01 01 00")
	for v, want := range map[int]string{0: "02 01 00", 127: "02 01 7F", 128: "02 02 00 80", -128: "02 01 80", -129: "02 02 FF 7F", 255: "02 02 00 FF", 256: "02 02 01 00", -1: "02 01 FF", 1 << 62: "02 08 40 00 00 00 00 00 00 00", -1 << 62: "02 08 C0 00 00 00 00 00 00 00", 32767: "02 02 7F FF", 32768: "02 03 00 80 00", 1<<62 + 1: "", -1<<62 - 1: "", -1 << 63: "", 1<<63 - 1: ""} {
		same(t, "integer", der.Integer(v), want)
	}
	same(t, "bits", der.Bits(5), "03 05 00 00 00 00 05")
	same(t, "bits", der.Bits(0xfedcba98), "03 05 00 FE DC BA 98")
	same(t, "octets", der.Octets([]byte{1, 2}), "04 02 01 02")
	same(t, "octets", der.Octets(nil), "04 00")
	same(t, "time", der.Time(0), "18 06 00 00 00 00 00 00")
	same(t, "time", der.Time(1), "18 06 00 00 00 00 00 01")
	for _, n := range []int{0, 30} {
		r := der.New(slices.Concat(der.Application(n, der.Bool(true)), der.Tagged(n, der.Bool(false))))
		a, e := r.Application(n)
		b, present, f := r.Tagged(n)
		if e != api.OK || f != api.OK || !present || a.Left() != 3 || b.Left() != 3 || r.End() != api.OK {
			t.Error(n, present, e, f)
		}
	}
	same(t, "time", der.Time(1<<40), "18 06 01 00 00 00 00 00")
	same(t, "time", der.Time(1<<40+1), "")
	same(t, "time", der.Time(-1), "")
	same(t, "string", der.String("aé"), "1B 03 61 C3 A9")
	same(t, "sequence", der.Sequence(der.Integer(5), der.Tagged(1, der.String("a")), der.Tagged(2, nil)), "30 08 02 01 05 A1 03 1B 01 61")
	same(t, "sequence", der.Sequence(), "30 00")
	same(t, "application", der.Application(30, der.Bool(true)), "7E 03 01 01 FF")
	for _, n := range []int{-1, 31, 1 << 62} {
		same(t, "application", der.Application(n, der.Bool(true)), "")
		same(t, "tagged", der.Tagged(n, der.Bool(true)), "")
	}
	same(t, "application", der.Application(3, nil), "")
	same(t, "tagged", der.Tagged(30, der.Bool(false)), "BE 03 01 01 00")
}

func TestLengths(t *testing.T) {
	for n, head := range map[int]string{127: "04 7F", 128: "04 81 80", 255: "04 81 FF", 256: "04 82 01 00", 65535: "04 82 FF FF", 65536: "04 83 01 00 00", 1<<24 - 1: "04 83 FF FF FF"} {
		b := der.Octets(make([]byte, n))
		if !bytes.HasPrefix(b, raw(head)) || len(b) != len(raw(head))+n {
			t.Error(n, b[:5], len(b))
		}
		r := der.New(b)
		if v, e := r.Octets(); len(v) != n || e != api.OK || r.End() != api.OK {
			t.Error(n, len(v), e)
		}
	}
	long := make([]byte, 1<<24)
	half := der.Octets(make([]byte, 1<<23))
	if len(der.Octets(long))+len(der.String(string(long)))+len(der.Sequence(half, half))+len(der.Tagged(1, long))+len(der.Application(1, long)) != 0 {
		t.Error("too long")
	}
	if len(der.Key(api.Key{Bytes: long}))+len(der.Sealed(api.Sealed{Bytes: long}))+len(der.Data([]api.Data{{Bytes: long}}))+len(der.Data([]api.Data{{Bytes: long[1<<23:]}, {Bytes: long[1<<23:]}})) != 0 {
		t.Error("too long")
	}
}

func TestCompound(t *testing.T) {
	k := api.Key{Profile: 1, Version: 300, Bytes: []byte{7}}
	same(t, "key", der.Key(k), "30 10 A0 03 02 01 01 A1 04 02 02 01 2C A2 03 04 01 07")
	same(t, "sealed", der.Sealed(api.Sealed{Profile: 2}), "30 0E A0 03 02 01 02 A1 03 02 01 00 A2 02 04 00")
	same(t, "data", der.Data([]api.Data{{Kind: -1, Bytes: []byte{9}}}), "30 0C 30 0A A0 03 02 01 FF A1 03 04 01 09")
	same(t, "data", der.Data(nil), "30 00")
	same(t, "data", der.Data(make([]api.Data, 17)), "")
	same(t, "data", der.Data([]api.Data{{}, {Kind: 1<<62 + 1}}), "")
	for _, v := range []int{1<<62 + 1, -1 << 63} {
		if len(der.Key(api.Key{Profile: v}))+len(der.Key(api.Key{Version: v}))+len(der.Sealed(api.Sealed{Profile: v}))+len(der.Sealed(api.Sealed{Version: v})) != 0 {
			t.Error(v)
		}
	}
}

func TestReadBack(t *testing.T) {
	ints := []int{0, 1, -1, 127, 128, -128, -129, 1 << 31, -1 << 31, 1 << 62, -1 << 62, 1<<62 - 1, 65535, 8388607, 8388608}
	var b []byte
	for _, v := range ints {
		b = append(b, der.Integer(v)...)
	}
	r := der.New(b)
	for _, v := range ints {
		if w, e := r.Integer(); v != w || e != api.OK {
			t.Error(v, w, e)
		}
	}
	if r.End() != api.OK || r.Left() != 0 {
		t.Error(r.Left())
	}
	r = der.New(slices.Concat(der.Bool(true), der.Bool(false), der.Bits(1<<31|3), der.Octets([]byte{5}), der.Time(1<<40), der.String("xyz"), der.Sequence(der.Bool(true)), der.Application(7, der.Bool(false)), der.Tagged(9, der.Integer(4))))
	v1, e1 := r.Bool()
	v2, e2 := r.Bool()
	v3, e3 := r.Bits()
	v4, e4 := r.Octets()
	v5, e5 := r.Time()
	v6, e6 := r.String()
	v7, e7 := r.Sequence()
	v8, e8 := r.Application(7)
	if _, present, e := r.Tagged(8); present || e != api.OK {
		t.Error(present, e)
	}
	v9, present, e9 := r.Tagged(9)
	for i, e := range []api.Errno{e1, e2, e3, e4, e5, e6, e7, e8, e9} {
		if e != api.OK {
			t.Error(i, e)
		}
	}
	if !v1 || v2 || v3 != 1<<31|3 || !bytes.Equal(v4, []byte{5}) || v5 != 1<<40 || v6 != "xyz" || v7.Left() != 3 || v8.Left() != 3 || !present || v9.Left() != 3 || r.End() != api.OK {
		t.Error(v1, v2, v3, v4, v5, v6)
	}
	if inner, present, e := r.Tagged(9); inner != nil || present || e != api.OK {
		t.Error(present, e)
	}
}

// calls are the methods that read one element.
func calls() map[string]func(*der.Reader) api.Errno {
	return map[string]func(*der.Reader) api.Errno{
		"01": func(r *der.Reader) api.Errno { v, e := r.Bool(); return zero(v, e) },
		"02": func(r *der.Reader) api.Errno { v, e := r.Integer(); return zero(v, e) },
		"03": func(r *der.Reader) api.Errno { v, e := r.Bits(); return zero(v, e) },
		"04": func(r *der.Reader) api.Errno { v, e := r.Octets(); return zero(string(v), e) },
		"18": func(r *der.Reader) api.Errno { v, e := r.Time(); return zero(v, e) },
		"1B": func(r *der.Reader) api.Errno { v, e := r.String(); return zero(v, e) },
		"30": func(r *der.Reader) api.Errno { v, e := r.Sequence(); return zero(v, e) },
		"63": func(r *der.Reader) api.Errno { v, e := r.Application(3); return zero(v, e) },
		"A3": func(r *der.Reader) api.Errno { v, ok, e := r.Tagged(3); return zero(v, zero(ok, e)) },
	}
}

// zero returns an error, which must come with a zero value.
func zero[T comparable](v T, e api.Errno) api.Errno {
	var none T
	if e != api.OK && v != none {
		return -1
	}
	return e
}

func TestErrors(t *testing.T) {
	for tag, call := range calls() {
		for s, want := range map[string]api.Errno{
			"": api.ErrShort, "05 01 00": api.ErrFormat, "05": api.ErrFormat, tag: api.ErrShort, tag + " 80": api.ErrFormat, tag + "84 01": api.ErrFormat, tag + "FF": api.ErrFormat,
			tag + "81": api.ErrShort, tag + "82 01": api.ErrShort, tag + "83 01 00": api.ErrShort, tag + "81 7F": api.ErrFormat, tag + "81 01 05": api.ErrFormat, tag + "82 00 FF": api.ErrFormat, tag + "83 00 FF FF": api.ErrFormat, tag + "82 00 00": api.ErrFormat,
			tag + "01": api.ErrShort, tag + "05 00 00 00 00": api.ErrShort, tag + "81 80 00": api.ErrShort,
		} {
			if tag == "A3" && (s == "" || strings.HasPrefix(s, "05")) {
				want = api.OK
			}
			r := der.New(raw(s))
			if e := call(r); e != want || r.Left() != len(raw(s)) {
				t.Error(tag, s, e, want, r.Left())
			}
		}
		if e := call(nil); e != api.ErrNil {
			t.Error(tag, e)
		}
		if e := call(&der.Reader{}); e != api.ErrNil {
			t.Error(tag, e)
		}
	}
	for tag, l := range map[string][]string{
		"01": {"00", "01 01", "01 80", "01 FE", "02 00 00", "02 FF FF"},
		"02": {"00", "02 00 05", "02 00 7F", "02 FF 80", "02 FF FF", "08 40 00 00 00 00 00 00 01", "08 80 00 00 00 00 00 00 00", "08 BF FF FF FF FF FF FF FF", "09 00 40 00 00 00 00 00 00 00", "09 00 80 00 00 00 00 00 00 00"},
		"03": {"00", "04 00 00 00 00", "05 01 00 00 00 00", "06 00 00 00 00 00 00"},
		"18": {"00", "05 00 00 00 00 00", "07 00 00 00 00 00 00 00", "06 01 00 00 00 00 01", "06 FF FF FF FF FF FF"},
		"30": {"01 02", "02 02 01", "04 02 01 00 05", "02 02 80"},
	} {
		for _, s := range l {
			r := der.New(raw(tag + s))
			if e := calls()[tag](r); e != api.ErrFormat || r.Left() != len(raw(tag+s)) {
				t.Error(tag, s, e)
			}
		}
	}
	for _, n := range []int{-1, 31, 1 << 62, -1 << 63} {
		r := der.New(der.Bool(true))
		_, e := r.Application(n)
		inner, present, f := r.Tagged(n)
		var none *der.Reader
		_, g := none.Application(n)
		_, _, h := none.Tagged(n)
		if e != api.ErrArg || f != api.ErrArg || g != api.ErrNil || h != api.ErrNil || inner != nil || present {
			t.Error(n, e, f, g, h)
		}
	}
	if r := der.New(raw("63 01 00")); calls()["63"](r) != api.OK || r.Left() != 0 {
		t.Error("contents of an application are not checked")
	}
}

func TestReadCompound(t *testing.T) {
	k := api.Key{Profile: 5, Version: -7, Bytes: []byte{1, 2}}
	d := []api.Data{{Kind: 1}, {Kind: -2, Bytes: []byte{3}}}
	r := der.New(slices.Concat(der.Key(k), der.Sealed(api.Sealed(k)), der.Data(d), der.Data(nil), der.Data(make([]api.Data, 16)), der.Bool(true)))
	k2, e := r.Key()
	s2, f := r.Sealed()
	d2, g := r.Data()
	d3, h := r.Data()
	d4, i := r.Data()
	if e+f+g+h+i != api.OK || k2.Version != -7 || k2.Profile != 5 || !bytes.Equal(k2.Bytes, k.Bytes) || !bytes.Equal(s2.Bytes, k.Bytes) || len(d2) != 2 || d2[1].Kind != -2 || !bytes.Equal(d2[1].Bytes, []byte{3}) || len(d3) != 0 || len(d4) != 16 || r.Left() != 3 {
		t.Error(k2, s2, d2, d3, e, f, g, h, i)
	}
	full := bytes.Repeat(raw("30 09 A0 03 02 01 01 A1 02 04 00"), 17)
	for s, want := range map[string]api.Errno{
		"": api.ErrShort, "31 00": api.ErrFormat, "30 05": api.ErrShort, "30 00": api.ErrShort, "30 05 A1 03 02 01 00": api.ErrFormat, "30 05 A0 03 04 01 00": api.ErrFormat, "30 04 A0 02 02 00": api.ErrFormat, "30 04 A0 02 02 01": api.ErrShort, "30 02 A0 00": api.ErrShort,
		"30 08 A0 06 02 01 00 02 01 00": api.ErrFormat, "30 05 A0 03 02 01 00": api.ErrShort, "30 0A A0 03 02 01 00 A1 03 02 01 00": api.ErrShort, "30 0F A0 03 02 01 00 A1 03 02 01 00 A2 03 04 01": api.ErrShort,
		"30 0E A0 03 02 01 00 A1 03 02 01 00 A3 02 04 00": api.ErrFormat, "30 11 A0 03 02 01 00 A1 03 02 01 00 A2 02 04 00 01 01 00": api.ErrFormat, "30 0E A0 03 02 01 00 A1 03 02 01 00 A2 02 04 00": api.OK,
	} {
		b := raw(s)
		if len(b) > 2 && int(b[1]) != len(b)-2 {
			b[1] = byte(len(b) - 2)
		}
		if s == "30 0F A0 03 02 01 00 A1 03 02 01 00 A2 03 04 01" {
			want = api.ErrFormat
		}
		r, q := der.New(b), der.New(b)
		k, e := r.Key()
		x, f := q.Sealed()
		if e != want || f != want || e != api.OK && (k.Profile+k.Version+len(k.Bytes)+len(x.Bytes) != 0 || r.Left() != len(b) || q.Left() != len(b)) {
			t.Error(s, e, f, want)
		}
	}
	for s, want := range map[string]api.Errno{
		"": api.ErrShort, "30 02 30 00": api.ErrShort, "30 03 02 01 00": api.ErrFormat, "30 0B 30 09 A0 03 02 01 01 A1 02 04 00": api.OK, "30 07 30 05 A0 03 02 01 01": api.ErrShort, "30 0E 30 0C A0 03 02 01 01 A1 02 04 00 01 01 00": api.ErrFormat,
		"30 81 BB" + hex.EncodeToString(full): api.ErrFormat, "30 81 B0" + hex.EncodeToString(full[:176]): api.OK, "30 81 B2" + hex.EncodeToString(full[:176]) + "05 00": api.ErrFormat,
	} {
		b := raw(s)
		r := der.New(b)
		if d, e := r.Data(); e != want || e != api.OK && (len(d) != 0 || r.Left() != len(b)) {
			t.Error(s, d, e, want)
		}
	}
	for _, r := range []*der.Reader{nil, {}} {
		_, e := r.Key()
		_, f := r.Sealed()
		_, g := r.Data()
		if e != api.ErrNil || f != api.ErrNil || g != api.ErrNil || r.Left() != 0 || r.End() != api.ErrNil || r.Copy() != nil {
			t.Error(e, f, g)
		}
	}
}

func TestCopyAndSharing(t *testing.T) {
	b := slices.Concat(der.Integer(1), der.Octets([]byte{2}), der.Octets([]byte{3}))
	r := der.New(b)
	clear(b)
	r.Integer()
	c := r.Copy()
	v, _ := r.Octets()
	v[0] = 9
	w, e := c.Octets()
	if !bytes.Equal(w, []byte{2}) || e != api.OK || r.Left() != 3 || c.Left() != 3 || r.End() != api.ErrLong {
		t.Error(w, e, r.Left(), c.Left())
	}
	if der.New(nil).End() != api.OK {
		t.Error("empty")
	}
}

func TestElements(t *testing.T) {
	b := raw("02 01 05 FF 00 30 81 01 05 01 01 00")
	elements := der.Elements(b)
	clear(b)
	for range 2 {
		s := ""
		for i, x := range elements {
			s += hex.EncodeToString(append([]byte{byte(i)}, x...)) + " "
			clear(x)
		}
		if s != "00020105 03ff00 " {
			t.Error(s)
		}
	}
	for i := range elements {
		if i != 0 {
			t.Error(i)
		}
		break
	}
	for _, s := range []string{"", "02", "02 01", "02 82 00 80", "02 05 01"} {
		for i := range der.Elements(raw(s)) {
			t.Error(s, i)
		}
	}
}
