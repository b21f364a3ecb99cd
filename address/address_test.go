package address_test

import (
	"bytes"
	"fmt"
	"net/netip"
	"slices"
	"strings"
	"testing"

	"watchword/address"
	"watchword/api"
	"watchword/der"
)

func ip(b ...byte) api.Address {
	if len(b) == 4 {
		return api.Address{Kind: 2, Bytes: b}
	}
	return api.Address{Kind: 24, Bytes: b}
}

func host(s string) api.Address { return api.Address{Kind: 20, Bytes: []byte(s)} }

var invalid = []api.Address{{}, {Kind: 2}, ip(1, 2, 3), {Kind: 2, Bytes: make([]byte, 5)}, {Kind: 24, Bytes: make([]byte, 4)}, {Kind: 24, Bytes: make([]byte, 17)}, {Kind: 2, Bytes: make([]byte, 16)}, host(""), host("a b"), host("a\x7f"), host(strings.Repeat("a", 17)), host("\x00"), {Kind: 3, Bytes: []byte("abcd")}, {Kind: -2, Bytes: make([]byte, 4)}}

func TestText(t *testing.T) {
	for _, x := range []struct {
		a    api.Address
		want string
	}{
		{ip(10, 0, 0, 255), "10.0.0.255"}, {ip(0, 0, 0, 0), "0.0.0.0"}, {ip(255, 9, 10, 99), "255.9.10.99"}, {host("a:b"), "host/a:b"}, {host("!~"), "host/!~"}, {host("host/host/host/a"), "host/host/host/host/a"},
		{ip(0xfe, 0x80, 0, 0, 0, 0, 0, 0, 0, 0, 0, 0, 0, 0, 0, 1), "[fe80::1]"}, {ip(make([]byte, 16)...), "[::]"}, {ip(0, 0, 0, 1, 0, 0, 0, 0, 0, 1, 0, 0, 0, 0, 0, 1), "[0:1::1:0:0:1]"},
		{ip(0, 1, 0, 0, 0, 2, 0, 3, 0, 4, 0, 5, 0, 6, 0, 7), "[1:0:2:3:4:5:6:7]"}, {ip(0, 0, 0, 0, 0, 2, 0, 3, 0, 4, 0, 5, 0, 6, 0xab, 0xcd), "[::2:3:4:5:6:abcd]"}, {ip(0x12, 0x30, 0, 3, 0, 2, 0, 3, 0, 4, 0, 5, 0, 0, 0, 0), "[1230:3:2:3:4:5::]"}, {ip(0, 1, 0, 0, 0, 0, 0, 3, 0, 0, 0, 0, 0, 0, 0, 7), "[1:0:0:3::7]"},
	} {
		s, e := address.Text(x.a)
		a, f := address.Parse(x.want)
		if s != x.want || e != api.OK || f != api.OK || !address.Equal(a, x.a) || !address.Valid(x.a) {
			t.Error(x, s, a, e, f)
		}
	}
	for _, a := range invalid {
		if s, e := address.Text(a); s != "" || e != api.ErrArg || address.Valid(a) {
			t.Error(a, s, e)
		}
	}
	for _, s := range []string{"", "10.0.0.256", "010.0.0.1", "10.0.0", "10.0.0.0.0", "10.0.0.-1", "+1.0.0.0", "10.0.0.0 ", "a.b.c.d", "10..0.0", "host/", "host/a b", "host/" + strings.Repeat("a", 17), "Host/a", "host", "::", "[::", "::]", "[]", "[[::]]", "[:::]", "[FE80::1]", "[0:0::1]", "[1:2:3:4:5:6:7]", "[1:2:3:4:5:6:7]", "[1:2:3:4:5:6:7:8:9]", "[1::2::3]", "[01::]", "[1:0:2:3:4:5:6:0:]", "[1:2:3:4:5:6:7::]", "[0:0:0:0:0:0:0:0]", "[1:0:0:3:0:0:0:7]", "[10000::]", "[g::]", "[-1::]", "[+1::]", "[1:2::3:4:0:0:5]", "[::1]x", "[1::0:0:3:7]", "[1_0::]", "[0x1::]", "[:1:2:3:4:5:6:7]", "[1:2:3:4::5:6:7:8]"} {
		if a, e := address.Parse(s); e != api.ErrFormat || a.Kind != 0 || len(a.Bytes) != 0 {
			t.Error(s, a, e)
		}
	}
}

func TestTextOfAllRuns(t *testing.T) {
	for mask := range 256 {
		b := make([]byte, 16)
		for i := range 8 {
			b[2*i+1] = byte(mask >> i & 1)
		}
		s, _ := address.Text(ip(b...))
		if want := "[" + netip.AddrFrom16([16]byte(b)).String() + "]"; s != want && !strings.Contains(want, ".") {
			t.Error(mask, s, want)
		}
		if a, e := address.Parse(s); e != api.OK || !bytes.Equal(a.Bytes, b) {
			t.Error(mask, s, a, e)
		}
	}
}

func TestNetwork(t *testing.T) {
	a := ip(10, 0, 0, 255)
	for _, x := range []struct {
		bits int
		b    api.Address
		want bool
		e    api.Errno
	}{{24, ip(10, 0, 0, 1), true, api.OK}, {24, ip(10, 0, 1, 0), false, api.OK}, {24, host("a"), false, api.OK}, {33, ip(10, 0, 0, 1), false, api.ErrRange}, {-1, ip(10, 0, 0, 1), false, api.ErrRange}, {0, ip(200, 1, 2, 3), true, api.OK}, {32, a, true, api.OK}, {32, ip(10, 0, 0, 254), false, api.OK}, {31, ip(10, 0, 0, 254), true, api.OK}, {25, ip(10, 0, 0, 128), true, api.OK}, {25, ip(10, 0, 0, 127), false, api.OK}, {1, ip(128, 0, 0, 0), false, api.OK}, {1, ip(127, 0, 0, 0), true, api.OK}, {0, ip(make([]byte, 16)...), false, api.OK}, {33, host("a"), false, api.ErrRange}, {33, host(""), false, api.ErrArg}, {1 << 62, a, false, api.ErrRange}} {
		if ok, e := address.Network(a, x.bits, x.b); ok != x.want || e != x.e {
			t.Error(x, ok, e)
		}
	}
	six := ip(make([]byte, 16)...)
	one := ip(append(make([]byte, 15), 1)...)
	x, e := address.Network(six, 127, one)
	y, f := address.Network(six, 128, one)
	_, g := address.Network(six, 129, one)
	if !x || y || e != api.OK || f != api.OK || g != api.ErrRange {
		t.Error(x, y, e, f, g)
	}
	for _, b := range append(slices.Clone(invalid), host("a")) {
		if ok, e := address.Network(b, 0, a); ok || e != api.ErrArg {
			t.Error(b, ok, e)
		}
	}
	for _, b := range invalid {
		if ok, e := address.Network(a, 99, b); ok || e != api.ErrArg {
			t.Error(b, ok, e)
		}
	}
}

func TestLists(t *testing.T) {
	l := []api.Address{ip(1, 2, 3, 4), host("a"), ip(1, 2, 3, 4), {Kind: 9}, host("b"), {Kind: 9, Bytes: []byte{}}}
	if !address.Contains(l, host("a")) || address.Contains(l, host("c")) || !address.Contains(l, api.Address{Kind: 9}) || address.Contains(nil, host("a")) || address.Contains(l, api.Address{Kind: 20, Bytes: []byte{1, 2, 3, 4}}) {
		t.Error("contains")
	}
	if !address.Allows(nil, host("a")) || !address.Allows(l, host("a")) || address.Allows(l, host("c")) || !address.Allows([]api.Address{}, api.Address{}) {
		t.Error("allows")
	}
	unique := address.Unique(l)
	c := address.Copy(l)
	for _, a := range l {
		clear(a.Bytes)
	}
	for range 2 {
		s := ""
		for a := range unique {
			s += fmt.Sprint(a.Kind, a.Bytes)
			clear(a.Bytes)
		}
		if s != "2 [1 2 3 4]20 [97]9 []20 [98]" {
			t.Error(s)
		}
	}
	for a := range unique {
		if a.Kind != 2 {
			t.Error(a)
		}
		break
	}
	if len(c) != 6 || string(c[1].Bytes) != "a" || string(c[4].Bytes) != "b" || len(address.Copy(nil)) != 0 {
		t.Error(c)
	}
	full := slices.Repeat([]api.Address{host("a")}, 16)
	if !address.ValidList(full) || address.ValidList(append(full, host("a"))) || !address.ValidList(nil) || address.ValidList([]api.Address{host("a"), {}}) {
		t.Error("valid")
	}
}

func TestEncode(t *testing.T) {
	for _, l := range [][]api.Address{nil, {ip(1, 2, 3, 4)}, {host("a"), ip(make([]byte, 16)...), host("a")}, slices.Repeat([]api.Address{host("b")}, 16)} {
		b, e := address.Encode(l)
		d, f := address.Decode(b)
		r := der.New(append(bytes.Clone(b), 5))
		m, g := address.Read(r)
		if e != api.OK || f != api.OK || g != api.OK || !slices.EqualFunc(l, d, address.Equal) || !slices.EqualFunc(l, m, address.Equal) || r.Left() != 1 {
			t.Error(l, d, m, e, f, g)
		}
		data := make([]api.Data, len(l))
		for i, a := range l {
			data[i] = api.Data(a)
		}
		if !bytes.Equal(b, der.Data(data)) {
			t.Error(b)
		}
		if _, f = address.Decode(append(b, 0)); f != api.ErrFormat {
			t.Error(f)
		}
	}
	for _, l := range [][]api.Address{{{}}, {host("a"), host("")}, slices.Repeat([]api.Address{host("b")}, 17)} {
		if b, e := address.Encode(l); len(b) != 0 || e != api.ErrArg {
			t.Error(l, e)
		}
	}
	long := der.Sequence(slices.Repeat([][]byte{der.Data([]api.Data{{Kind: 20, Bytes: []byte("a")}})[2:]}, 17)...)
	for _, b := range [][]byte{nil, {0x30}, {0x31, 0}, {0x30, 1}, der.Data([]api.Data{{Kind: 2, Bytes: []byte{1}}}), der.Data([]api.Data{{Kind: 20, Bytes: []byte("a")}, {}}), long, {0x30, 2, 1, 0}} {
		r := der.New(b)
		l, e := address.Read(r)
		m, f := address.Decode(b)
		if len(l)+len(m) != 0 || e != api.ErrFormat || f != api.ErrFormat || r.Left() != len(b) {
			t.Error(b, l, m, e, f)
		}
	}
	for _, r := range []*der.Reader{nil, {}} {
		if l, e := address.Read(r); len(l) != 0 || e != api.ErrNil {
			t.Error(l, e)
		}
	}
}
