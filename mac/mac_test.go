package mac_test

import (
	"bytes"
	"crypto/hmac"
	"crypto/sha256"
	"testing"

	"watchword/api"
	"watchword/mac"
)

// text returns n bytes that depend on a seed.
func text(n, seed int) []byte {
	b := make([]byte, n)
	for i := range b {
		b[i] = byte(i*7 + i/256 + seed)
	}
	return b
}

// right returns the keyed hash by the standard library.
func right(key, b []byte) []byte {
	h := hmac.New(sha256.New, key)
	h.Write(b)
	return h.Sum(nil)
}

func TestHMAC(t *testing.T) {
	for _, n := range []int{0, 1, 32, 63, 64, 65, 100, 4096} {
		key, b := text(n, 1), text(200, 2)
		for _, cut := range []int{0, 1, 64, 199, 200} {
			sum, e := mac.HMAC(key, b[:cut], nil, b[cut:])
			if !bytes.Equal(sum[:], right(key, b)) || e != api.OK {
				t.Error(n, cut, e)
			}
		}
		none, e := mac.HMAC(key)
		if !bytes.Equal(none[:], right(key, nil)) || e != api.OK {
			t.Error(n, e)
		}
		for k := 1; k <= 32; k++ {
			first, e := mac.Truncated(k, key, b[:50], b[50:])
			if !bytes.Equal(first, right(key, b)[:k]) || e != api.OK {
				t.Error(n, k, e)
			}
		}
	}
	sum, e := mac.HMAC(text(4097, 1))
	short, f := mac.Truncated(5, text(4097, 1))
	if sum != [32]byte{} || e != api.ErrArg || len(short) != 0 || f != api.ErrArg {
		t.Error(e, f)
	}
	for _, n := range []int{0, -1, 33, 1 << 62, -1 << 63} {
		if b, e := mac.Truncated(n, []byte("k"), []byte("m")); len(b) != 0 || e != api.ErrArg {
			t.Error(n, b, e)
		}
	}
}

func TestKeys(t *testing.T) {
	key := text(20, 3)
	a, _ := mac.HMAC(key, []byte("m"))
	b, _ := mac.HMAC(append(text(20, 3), make([]byte, 44)...), []byte("m"))
	c, _ := mac.HMAC(append(text(20, 3), make([]byte, 45)...), []byte("m"))
	long := text(65, 4)
	hash := sha256.Sum256(long)
	d, _ := mac.HMAC(long, []byte("m"))
	f, _ := mac.HMAC(hash[:], []byte("m"))
	if a != b || a == c || d != f {
		t.Error("keys")
	}
}

func TestCheck(t *testing.T) {
	key, b := []byte("Jefe"), []byte("what do ya want for nothing?")
	sum := right(key, b)
	for n := 1; n <= 32; n++ {
		if e := mac.Check(key, sum[:n], b[:10], b[10:]); e != api.OK {
			t.Error(n, e)
		}
		for i := range n {
			wrong := append([]byte(nil), sum[:n]...)
			wrong[i] ^= 1
			if e := mac.Check(key, wrong, b); e != api.ErrCheck {
				t.Error(n, i, e)
			}
		}
	}
	for _, wrong := range [][]byte{nil, {}, append(append([]byte(nil), sum...), 0)} {
		if e := mac.Check(key, wrong, b); e != api.ErrCheck {
			t.Error(wrong, e)
		}
	}
	if e := mac.Check(make([]byte, 4097), sum, b); e != api.ErrArg {
		t.Error(e)
	}
	if e := mac.Check(make([]byte, 4097), nil, b); e != api.ErrArg {
		t.Error(e)
	}
}

func TestEqual(t *testing.T) {
	for _, x := range []struct {
		a, b []byte
		want bool
	}{{nil, nil, true}, {nil, []byte{}, true}, {[]byte{1}, nil, false}, {[]byte{1, 2}, []byte{1, 2}, true}, {[]byte{1, 2}, []byte{1, 3}, false}, {[]byte{9, 2}, []byte{1, 2}, false}, {[]byte{1}, []byte{1, 1}, false}, {[]byte{0, 0}, []byte{0}, false}} {
		if mac.Equal(x.a, x.b) != x.want || mac.Equal(x.b, x.a) != x.want {
			t.Error(x)
		}
	}
}

func TestProgress(t *testing.T) {
	key := text(70, 5)
	m, e := mac.New(key)
	if e != api.OK {
		t.Fatal(e)
	}
	clear(key)
	for i := range 200 {
		sum, e := m.Sum()
		again, f := m.Sum()
		if !bytes.Equal(sum[:], right(text(70, 5), text(i, 0))) || again != sum || e != api.OK || f != api.OK {
			t.Error(i, e, f)
		}
		if e := m.Write([]byte{byte(i * 7)}); e != api.OK {
			t.Error(e)
		}
	}
	c := m.Copy()
	m.Write([]byte("a"))
	c.Write([]byte("b"))
	x, _ := m.Sum()
	y, _ := c.Sum()
	if !bytes.Equal(x[:], right(text(70, 5), append(text(200, 0), 'a'))) || !bytes.Equal(y[:], right(text(70, 5), append(text(200, 0), 'b'))) {
		t.Error("copy")
	}
	if m, e := mac.New(make([]byte, 4097)); m != nil || e != api.ErrArg {
		t.Error(m, e)
	}
	if _, e := mac.New(nil); e != api.OK {
		t.Error(e)
	}
}

func TestNil(t *testing.T) {
	for _, m := range []*mac.Mac{nil, {}} {
		sum, e := m.Sum()
		if m.Write([]byte{1}) != api.ErrNil || e != api.ErrNil || sum != [32]byte{} || m.Copy() != nil {
			t.Error(m, e)
		}
	}
}
