package derive_test

import (
	"bytes"
	"crypto/hmac"
	"crypto/sha256"
	"encoding/binary"
	"encoding/hex"
	"testing"

	"watchword/api"
	"watchword/derive"
)

func hash(key []byte, parts ...[]byte) []byte {
	h := hmac.New(sha256.New, key)
	for _, p := range parts {
		h.Write(p)
	}
	return h.Sum(nil)
}

func number(v int) []byte { return binary.BigEndian.AppendUint32(nil, uint32(v)) }

// rightKDF returns derived bytes, by the definition.
func rightKDF(key, label, context []byte, n int) []byte {
	var b []byte
	for i := 1; len(b) < n; i++ {
		b = append(b, hash(key, number(i), label, []byte{0}, context, number(8*n))...)
	}
	return b[:n]
}

// rightPassword returns the key of a password, by the definition.
func rightPassword(password, salt []byte, iterations, n int) []byte {
	var b []byte
	for i := 1; len(b) < n; i++ {
		u := hash(password, salt, number(i))
		sum := bytes.Clone(u)
		for range iterations - 1 {
			u = hash(password, u)
			for j := range u {
				sum[j] ^= u[j]
			}
		}
		b = append(b, sum...)
	}
	return b[:n]
}

func TestKDF(t *testing.T) {
	long := bytes.Repeat([]byte("x"), 4096)
	for _, n := range []int{1, 16, 31, 32, 33, 64, 65, 1023, 1024} {
		for _, x := range [][3][]byte{{[]byte("k"), []byte("l"), nil}, {nil, nil, nil}, {long, long, long}, {[]byte("key"), {0}, []byte{1, 2}}} {
			b, e := derive.KDF(x[0], x[1], x[2], n)
			if !bytes.Equal(b, rightKDF(x[0], x[1], x[2], n)) || e != api.OK {
				t.Error(n, x, e)
			}
		}
	}
	a, _ := derive.KDF([]byte("k"), []byte("l"), nil, 16)
	b, _ := derive.KDF([]byte("k"), []byte("l"), nil, 17)
	if bytes.HasPrefix(b, a) {
		t.Error("prefix")
	}
}

func TestPassword(t *testing.T) {
	for _, x := range []struct {
		password, salt string
		iterations, n  int
	}{{"password", "salt", 1, 32}, {"password", "salt", 2, 32}, {"password", "salt", 4096, 20}, {"", "", 3, 1}, {"p", "s", 5, 33}, {"passwordPASSWORDpassword", "saltSALTsaltSALTsaltSALTsaltSALTsalt", 7, 100}, {string(make([]byte, 4096)), string(make([]byte, 4096)), 2, 1024}} {
		b, e := derive.Password([]byte(x.password), []byte(x.salt), x.iterations, x.n)
		if !bytes.Equal(b, rightPassword([]byte(x.password), []byte(x.salt), x.iterations, x.n)) || e != api.OK {
			t.Error(x.iterations, x.n, b, e)
		}
		short, _ := derive.Password([]byte(x.password), []byte(x.salt), x.iterations, 1)
		if !bytes.HasPrefix(b, short) {
			t.Error(x.iterations, x.n)
		}
	}
	b, _ := derive.Password([]byte("password"), []byte("salt"), 1, 32)
	if hex.EncodeToString(b) != "120fb6cffcf8b32c43e7225256c4f837a86548c92ccc35480805987cb70be17b" {
		t.Error(b)
	}
	if b, e := derive.Password([]byte("p"), []byte("s"), 65536, 1); len(b) != 1 || e != api.OK {
		t.Error(b, e)
	}
}

func TestErrors(t *testing.T) {
	k, long := []byte("k"), make([]byte, 4097)
	for _, n := range []int{0, -1, 1025, 1 << 62, -1 << 63} {
		a, e := derive.KDF(k, k, k, n)
		b, f := derive.Password(k, k, 1, n)
		if len(a)+len(b) != 0 || e != api.ErrArg || f != api.ErrArg {
			t.Error(n, e, f)
		}
		for i := range derive.Blocks(k, k, k, n) {
			t.Error(n, i)
		}
	}
	for _, x := range [][3][]byte{{long, k, k}, {k, long, k}, {k, k, long}} {
		if b, e := derive.KDF(x[0], x[1], x[2], 16); len(b) != 0 || e != api.ErrArg {
			t.Error(e)
		}
		for i := range derive.Blocks(x[0], x[1], x[2], 16) {
			t.Error(i)
		}
	}
	for _, iterations := range []int{0, -1, 65537, 1 << 62, -1 << 63} {
		if b, e := derive.Password(k, k, iterations, 16); len(b) != 0 || e != api.ErrArg {
			t.Error(iterations, e)
		}
	}
	b, e := derive.Password(long, k, 1, 1)
	c, f := derive.Password(k, long, 1, 1)
	if len(b)+len(c) != 0 || e != api.ErrArg || f != api.ErrArg {
		t.Error(e, f)
	}
}

func TestBlocks(t *testing.T) {
	for n, want := range map[int]int{1: 1, 32: 1, 33: 2, 64: 2, 65: 3, 1024: 32} {
		key, label, context := []byte("k"), []byte("l"), []byte("c")
		blocks := derive.Blocks(key, label, context, n)
		clear(key)
		clear(label)
		clear(context)
		for range 2 {
			next := 1
			for i, b := range blocks {
				if i != next || !bytes.Equal(b, hash([]byte("k"), number(i), []byte("l\x00c"), number(8*n))) {
					t.Error(n, i, b)
				}
				clear(b)
				next++
			}
			if next != want+1 {
				t.Error(n, next)
			}
		}
		for i := range blocks {
			if i != 1 {
				t.Error(i)
			}
			break
		}
	}
}
