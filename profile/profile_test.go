package profile_test

import (
	"bytes"
	"crypto/aes"
	"crypto/cipher"
	"crypto/hmac"
	"crypto/sha256"
	"encoding/binary"
	"math/rand"
	"strings"
	"testing"

	"watchword/api"
	"watchword/derive"
	"watchword/profile"
)

func hash(key []byte, parts ...[]byte) []byte {
	h := hmac.New(sha256.New, key)
	for _, p := range parts {
		h.Write(p)
	}
	return h.Sum(nil)
}

func number(v int) []byte { return binary.BigEndian.AppendUint32(nil, uint32(v)) }

// derived returns a derived key, by the definition.
func derived(k api.Key, usage int, purpose byte) []byte {
	b, _ := derive.KDF(k.Bytes, append(number(usage), purpose), nil, len(k.Bytes))
	return b
}

// right returns a sealed string, by the definition.
func right(k api.Key, usage int, confounder, plain []byte) []byte {
	ke, ki := derived(k, usage, 0xaa), derived(k, usage, 0x55)
	if k.Profile == 1 {
		block, _ := aes.NewCipher(ke)
		n := 16 + len(plain)
		full := append(bytes.Clone(confounder), plain...)
		full = append(full, make([]byte, (16-n%16)%16)...)
		cipher.NewCBCEncrypter(block, make([]byte, 16)).CryptBlocks(full, full)
		if m := len(full); m > 16 {
			copy(full[m-32:], append(bytes.Clone(full[m-16:]), full[m-32:m-16]...))
		}
		return append(full[:n:n], hash(ki, make([]byte, 16), full[:n])[:16]...)
	}
	text := append(bytes.Clone(confounder), plain...)
	for i := range plain {
		text[16+i] ^= hash(ke, confounder, number(i/32+1))[i%32]
	}
	return append(text, hash(ki, text)...)
}

func key(r *rand.Rand, p, version int) api.Key {
	b := make([]byte, 16*p)
	r.Read(b)
	return api.Key{Profile: p, Version: version, Bytes: b}
}

func random(r *rand.Rand, n int) []byte {
	b := make([]byte, n)
	r.Read(b)
	return b
}

func TestSealOpen(t *testing.T) {
	r := rand.New(rand.NewSource(1))
	for p := 1; p <= 2; p++ {
		for _, n := range []int{0, 1, 5, 15, 16, 17, 31, 32, 33, 64, 1000, 65536} {
			for _, usage := range []int{1, 11, 1023} {
				k, c, plain := key(r, p, n%3), random(r, 16), random(r, n)
				s, e := profile.Seal(k, api.Usage(usage), c, plain)
				if n < 2000 && !bytes.Equal(s.Bytes, right(k, usage, c, plain)) || s.Profile != p || s.Version != n%3 || e != api.OK || len(s.Bytes) != n+16+16*p {
					t.Error(p, n, usage, e)
				}
				b, e := profile.Open(k, api.Usage(usage), s)
				if !bytes.Equal(b, plain) || e != api.OK {
					t.Error(p, n, usage, e)
				}
				if b, e := profile.Open(k, api.Usage(usage%1023+1), s); len(b) != 0 || e != api.ErrCheck {
					t.Error(p, n, usage, e)
				}
				if b, e := profile.Open(key(r, p, 0), api.Usage(usage), s); len(b) != 0 || e != api.ErrCheck {
					t.Error(p, n, usage, e)
				}
			}
		}
		k, c := key(r, p, 0), random(r, 16)
		s, _ := profile.Seal(k, 3, c, []byte("plaintext of some length"))
		for i := range s.Bytes {
			s.Bytes[i] ^= 4
			if b, e := profile.Open(k, 3, s); len(b) != 0 || e != api.ErrCheck {
				t.Error(p, i, e)
			}
			s.Bytes[i] ^= 4
		}
		if b, e := profile.Open(k, 3, s); string(b) != "plaintext of some length" || e != api.OK {
			t.Error(p, b, e)
		}
	}
}

func TestFitting(t *testing.T) {
	r := rand.New(rand.NewSource(2))
	a, b := key(r, 1, 3), key(r, 2, 3)
	c := random(r, 16)
	s, _ := profile.Seal(a, 1, c, []byte("x"))
	for _, x := range []struct {
		key, sealed int
		want        api.Errno
	}{{3, 3, api.OK}, {0, 3, api.OK}, {3, 0, api.OK}, {0, 0, api.OK}, {4, 3, api.ErrNone}, {3, 4, api.ErrNone}, {0, 99999999, api.OK}, {3, -1, api.ErrNone}} {
		a.Version, s.Version = x.key, x.sealed
		if _, e := profile.Open(a, 1, s); e != x.want {
			t.Error(x, e)
		}
	}
	a.Version, s.Version = 3, 3
	if _, e := profile.Open(b, 1, s); e != api.ErrNone {
		t.Error(e)
	}
	s.Profile = 2
	if _, e := profile.Open(a, 1, s); e != api.ErrNone {
		t.Error(e)
	}
	s.Bytes = nil
	if _, e := profile.Open(a, 1, s); e != api.ErrNone {
		t.Error(e)
	}
}

func TestLengths(t *testing.T) {
	r := rand.New(rand.NewSource(3))
	for p := 1; p <= 2; p++ {
		k := key(r, p, 0)
		for n, want := range map[int]api.Errno{0: api.ErrShort, 15 + 16*p: api.ErrShort, 16 + 16*p: api.ErrCheck, 65536 + 16 + 16*p: api.ErrCheck, 65537 + 16 + 16*p: api.ErrLong} {
			if b, e := profile.Open(k, 1, api.Sealed{Profile: p, Bytes: make([]byte, n)}); len(b) != 0 || e != want {
				t.Error(p, n, e)
			}
		}
	}
}

func TestInvalid(t *testing.T) {
	r := rand.New(rand.NewSource(4))
	c := random(r, 16)
	good := key(r, 1, 0)
	sealed, _ := profile.Seal(good, 1, c, nil)
	for i, k := range []api.Key{{}, {Profile: 1}, {Profile: 3, Bytes: good.Bytes}, {Profile: 2, Bytes: good.Bytes}, {Profile: 1, Bytes: make([]byte, 17)}, {Profile: 1, Version: -1, Bytes: good.Bytes}, {Profile: 1, Version: 65536, Bytes: good.Bytes}, {Profile: -1, Bytes: nil}} {
		s, e := profile.Seal(k, 1, c, nil)
		b, f := profile.Open(k, 1, sealed)
		d, g := profile.Sum(k, 1, nil)
		if profile.Valid(k) || e != api.ErrArg || f != api.ErrArg || g != api.ErrArg || profile.Verify(k, 1, nil, d) != api.ErrArg || len(b)+len(d)+len(s.Bytes)+s.Profile != 0 {
			t.Error(i, e, f, g)
		}
	}
	for _, usage := range []api.Usage{0, -1, 1024, 1 << 62, -1 << 63} {
		s, e := profile.Seal(good, usage, c, nil)
		_, f := profile.Open(good, usage, sealed)
		_, g := profile.Sum(good, usage, nil)
		if e != api.ErrArg || f != api.ErrArg || g != api.ErrArg || profile.Verify(good, usage, nil, nil) != api.ErrArg || s.Profile != 0 {
			t.Error(usage, e, f, g)
		}
	}
	for _, x := range [][2][]byte{{c[:15], nil}, {nil, nil}, {append(c, 0), nil}, {c, make([]byte, 65537)}} {
		if s, e := profile.Seal(good, 1, x[0], x[1]); e != api.ErrArg || len(s.Bytes) != 0 {
			t.Error(len(x[0]), len(x[1]), e)
		}
	}
	for _, k := range []api.Key{good, key(r, 2, 65535), key(r, 1, 1)} {
		if !profile.Valid(k) {
			t.Error(k)
		}
	}
}

func TestSum(t *testing.T) {
	r := rand.New(rand.NewSource(5))
	for p := 1; p <= 2; p++ {
		k, b := key(r, p, 7), random(r, 100)
		want := hash(derived(k, 6, 0x99), b)[:16*p]
		s, e := profile.Sum(k, 6, b)
		if !bytes.Equal(s, want) || e != api.OK || profile.Verify(k, 6, b, s) != api.OK {
			t.Error(p, e)
		}
		if profile.Verify(k, 7, b, s) != api.ErrCheck || profile.Verify(k, 6, b[1:], s) != api.ErrCheck || profile.Verify(k, 6, b, s[1:]) != api.ErrCheck || profile.Verify(k, 6, b, s[:15]) != api.ErrCheck || profile.Verify(k, 6, b, nil) != api.ErrCheck || profile.Verify(k, 6, b, append(s, 0)) != api.ErrCheck {
			t.Error(p)
		}
	}
}

func TestFromPassword(t *testing.T) {
	names := []string{"", "aes128-cts-hmac-sha256-128", "stream-hmac-sha256-256"}
	for p := 1; p <= 2; p++ {
		secret, _ := derive.Password([]byte("pass"), []byte(names[p]+"\x00salt"), 5, 16*p)
		want, _ := derive.KDF(secret, []byte("kerberos"), nil, 16*p)
		k, e := profile.FromPassword(p, "pass", "salt", 5)
		if k.Profile != p || k.Version != 0 || !bytes.Equal(k.Bytes, want) || e != api.OK {
			t.Error(p, k, e)
		}
		long := strings.Repeat("s", 4096-len(names[p])-1)
		if _, e := profile.FromPassword(p, strings.Repeat("p", 4096), long, 1); e != api.OK {
			t.Error(p, e)
		}
		for i, x := range []struct {
			password, salt string
			iterations     int
		}{{"p", long + "s", 1}, {strings.Repeat("p", 4097), "", 1}, {"p", "s", 0}, {"p", "s", -1}, {"p", "s", 65537}} {
			if k, e := profile.FromPassword(p, x.password, x.salt, x.iterations); e != api.ErrArg || k.Profile != 0 || len(k.Bytes) != 0 {
				t.Error(p, i, k, e)
			}
		}
	}
	for _, p := range []int{0, 3, -1} {
		k, e := profile.FromPassword(p, "p", "s", 1)
		l, f := profile.FromBytes(p, make([]byte, 16))
		if e != api.ErrArg || f != api.ErrArg || k.Profile+l.Profile != 0 {
			t.Error(p, e, f)
		}
	}
}

func TestFromBytesEqualCopy(t *testing.T) {
	for p := 1; p <= 2; p++ {
		for _, n := range []int{0, 15, 16, 17, 31, 32, 33} {
			b := bytes.Repeat([]byte{5}, n)
			k, e := profile.FromBytes(p, b)
			clear(b)
			if n == 16*p {
				if e != api.OK || k.Profile != p || k.Version != 0 || !bytes.Equal(k.Bytes, bytes.Repeat([]byte{5}, n)) {
					t.Error(p, n, k, e)
				}
			} else if e != api.ErrArg || k.Profile != 0 || len(k.Bytes) != 0 {
				t.Error(p, n, k, e)
			}
		}
	}
	a := api.Key{Profile: 7, Version: -2, Bytes: []byte{1, 2}}
	b := profile.Copy(a)
	if !profile.Equal(a, b) {
		t.Error(b)
	}
	b.Bytes[0] = 9
	if a.Bytes[0] != 1 || profile.Equal(a, b) || profile.Equal(a, api.Key{Profile: 7, Version: -1, Bytes: a.Bytes}) || profile.Equal(a, api.Key{Profile: 6, Version: -2, Bytes: a.Bytes}) || profile.Equal(a, api.Key{Profile: 7, Version: -2}) {
		t.Error("equal")
	}
	if !profile.Equal(api.Key{}, api.Key{Bytes: []byte{}}) {
		t.Error("nil")
	}
}

func TestTable(t *testing.T) {
	for p, want := range map[int][4]int{0: {}, 1: {16, 16, 16, 16}, 2: {32, 32, 32, 16}, 3: {}, -1: {}} {
		if got := [4]int{profile.KeyLen(p), profile.SumLen(p), profile.TagLen(p), profile.ConfounderLen(p)}; got != want {
			t.Error(p, got)
		}
	}
	all := profile.Profiles()
	for range all {
		break
	}
	s := ""
	for i, name := range all {
		s += string(rune('0'+i)) + name + " "
	}
	if s != "1aes128-cts-hmac-sha256-128 2stream-hmac-sha256-256 " {
		t.Error(s)
	}
}
