package cts_test

import (
	"bytes"
	"crypto/aes"
	"crypto/cipher"
	"encoding/hex"
	"iter"
	"math/rand"
	"slices"
	"testing"

	"watchword/api"
	"watchword/cts"
)

// right returns the ciphertext by the standard library's block chaining.
func right(key, iv, plain []byte) []byte {
	block, _ := aes.NewCipher(key)
	full := append(bytes.Clone(plain), make([]byte, (16-len(plain)%16)%16)...)
	cipher.NewCBCEncrypter(block, iv).CryptBlocks(full, full)
	if n := len(full); n > 16 {
		last := append(bytes.Clone(full[n-16:]), full[n-32:n-16]...)
		copy(full[n-32:], last)
	}
	return full[:len(plain)]
}

func random(r *rand.Rand, n int) []byte {
	b := make([]byte, n)
	r.Read(b)
	return b
}

func TestEncryptDecrypt(t *testing.T) {
	r := rand.New(rand.NewSource(1))
	lengths := []int{1000, 4096, cts.MaxText - 1, cts.MaxText}
	for n := 16; n < 100; n++ {
		lengths = append(lengths, n)
	}
	for _, n := range lengths {
		key, iv, plain := random(r, 16), random(r, 16), random(r, n)
		before := bytes.Clone(plain)
		c, e := cts.Encrypt(key, iv, plain)
		if !bytes.Equal(c, right(key, iv, plain)) || e != api.OK || !bytes.Equal(plain, before) {
			t.Error(n, e)
		}
		p, e := cts.Decrypt(key, iv, c)
		if !bytes.Equal(p, plain) || e != api.OK {
			t.Error(n, e)
		}
		p, _ = cts.Decrypt(key, iv, plain)
		if c, _ = cts.Encrypt(key, iv, p); !bytes.Equal(c, plain) {
			t.Error(n)
		}
	}
	want := map[string]string{
		"I would like the ":                "c6353568f2bf8cb4d8a580362da7ff7f97",
		"I would like the General Gau's ":  "fc00783e0efdb2c1d445d4c8eff7ed2297687268d6ecccc0c07b25e25ecfe5",
		"I would like the General Gau's C": "39312523a78662d5be7fcbcc98ebf5a897687268d6ecccc0c07b25e25ecfe584",
	}
	for s, w := range want {
		if c, _ := cts.Encrypt([]byte("chicken teriyaki"), make([]byte, 16), []byte(s)); hex.EncodeToString(c) != w {
			t.Error(s, hex.EncodeToString(c))
		}
	}
}

func TestErrors(t *testing.T) {
	key, text := make([]byte, 16), make([]byte, 32)
	for _, call := range []func(key, iv, b []byte) ([]byte, api.Errno){cts.Encrypt, cts.Decrypt} {
		for _, x := range []struct {
			key, iv, b []byte
			want       api.Errno
		}{
			{key[:15], key, text, api.ErrArg}, {key, key[:15], text, api.ErrArg}, {text, key, text, api.ErrArg}, {key, text, text, api.ErrArg},
			{nil, nil, nil, api.ErrArg}, {key[:3], key, nil, api.ErrArg}, {key, nil, make([]byte, cts.MaxText+1), api.ErrArg},
			{key, key, text[:15], api.ErrShort}, {key, key, nil, api.ErrShort}, {key, key, make([]byte, cts.MaxText+1), api.ErrLong},
		} {
			if b, e := call(x.key, x.iv, x.b); len(b) != 0 || e != x.want {
				t.Error(len(x.key), len(x.iv), len(x.b), e)
			}
		}
	}
}

func TestPrefixes(t *testing.T) {
	r := rand.New(rand.NewSource(2))
	key, iv, a := random(r, 16), random(r, 16), random(r, 64)
	b := append(bytes.Clone(a[:32]), random(r, 32)...)
	x, _ := cts.Encrypt(key, iv, a[:50])
	y, _ := cts.Encrypt(key, iv, b[:50])
	if !bytes.Equal(x[:32-16], y[:32-16]) || bytes.Equal(x[32:], y[32:]) {
		t.Error("prefix")
	}
	x, _ = cts.Encrypt(key, iv, a)
	y, _ = cts.Encrypt(key, iv, b)
	if !bytes.Equal(x[:32], y[:32]) || bytes.Equal(x, y) {
		t.Error("prefix")
	}
}

func TestChain(t *testing.T) {
	r := rand.New(rand.NewSource(3))
	key, iv, plain := random(r, 16), random(r, 16), random(r, 80)
	block, _ := aes.NewCipher(key)
	want := bytes.Clone(plain)
	cipher.NewCBCEncrypter(block, iv).CryptBlocks(want, want)
	k, v := bytes.Clone(key), bytes.Clone(iv)
	chained := cts.Chain(k, v, slices.Chunk(plain, 16))
	clear(k)
	clear(v)
	for range 2 {
		var got []byte
		for b := range chained {
			got = append(got, b...)
			clear(b)
		}
		if !bytes.Equal(got, want) {
			t.Error(got)
		}
	}
	for b := range chained {
		if !bytes.Equal(b, want[:16]) {
			t.Error(b)
		}
		break
	}
	if got := slices.Collect(cts.Chain(key, iv, slices.Chunk(plain[:60], 16))); len(got) != 3 {
		t.Error(len(got))
	}
	odd := func(yield func([]byte) bool) {
		_ = yield(plain[:16]) && yield(plain[:17]) && yield(plain[:16])
	}
	if got := slices.Collect(cts.Chain(key, iv, odd)); len(got) != 1 {
		t.Error(len(got))
	}
	for i, s := range []iter.Seq[[]byte]{cts.Chain(key[:15], iv, odd), cts.Chain(key, iv[:15], odd), cts.Chain(key, nil, odd), cts.Chain(key, iv, nil), cts.Chain(nil, nil, nil)} {
		for b := range s {
			t.Error(i, b)
		}
	}
	endless := func(yield func([]byte) bool) {
		for yield(plain[:16]) {
		}
	}
	n := 0
	for range cts.Chain(key, iv, endless) {
		if n++; n == 5 {
			break
		}
	}
}
