package aes_test

import (
	"bytes"
	standard "crypto/aes"
	"encoding/hex"
	"math/rand"
	"testing"

	"watchword/aes"
	"watchword/api"
)

// table holds the substitutes of all bytes.
const table = "637c777bf26b6fc53001672bfed7ab76ca82c97dfa5947f0add4a2af9ca472c0b7fd9326363ff7cc34a5e5f171d8311504c723c31896059a071280e2eb27b27509832c1a1b6e5aa0523bd6b329e32f8453d100ed20fcb15b6acbbe394a4c58cfd0efaafb434d338545f9027f503c9fa851a3408f929d38f5bcb6da2110fff3d2cd0c13ec5f974417c4a77e3d645d197360814fdc222a908846eeb814de5e0bdbe0323a0a4906245cc2d3ac629195e479e7c8376d8dd54ea96c56f4ea657aae08ba78252e1ca6b4c6e8dd741f4bbd8b8a703eb5664803f60e613557b986c11d9ee1f8981169d98e949b1e87e9ce5528df8ca1890dbfe6426841992d0fb054bb16"

func TestSubstitutes(t *testing.T) {
	want, _ := hex.DecodeString(table)
	for i := range 256 {
		if aes.Substitute(byte(i)) != want[i] || aes.Inverse(want[i]) != byte(i) {
			t.Error(i, aes.Substitute(byte(i)), aes.Inverse(want[i]))
		}
	}
}

func TestCipher(t *testing.T) {
	r := rand.New(rand.NewSource(1))
	for i := range 200 {
		key, plain := make([]byte, 16), make([]byte, 16)
		r.Read(key)
		r.Read(plain)
		if i == 0 {
			clear(key)
			clear(plain)
		}
		right, _ := standard.NewCipher(key)
		want, back := make([]byte, 16), make([]byte, 16)
		right.Encrypt(want, plain)
		right.Decrypt(back, plain)
		given := bytes.Clone(key)
		c, e := aes.New(given)
		clear(given)
		before := bytes.Clone(plain)
		x, f := c.Encrypt(plain)
		y, g := c.Decrypt(plain)
		if e != api.OK || f != api.OK || g != api.OK || !bytes.Equal(x, want) || !bytes.Equal(y, back) || !bytes.Equal(plain, before) {
			t.Error(key, plain, x, y, e, f, g)
		}
		z, _ := c.Decrypt(x)
		u, _ := c.Encrypt(y)
		if !bytes.Equal(z, plain) || !bytes.Equal(u, plain) {
			t.Error(key, plain)
		}
	}
}

func TestKeys(t *testing.T) {
	key, _ := hex.DecodeString("2b7e151628aed2a6abf7158809cf4f3c")
	c, _ := aes.New(key)
	keys := c.Keys()
	for range 2 {
		n := 0
		for i, k := range keys {
			if i != n || len(k) != 16 {
				t.Error(i, n, k)
			}
			switch i {
			case 0:
				if !bytes.Equal(k, key) {
					t.Error(k)
				}
			case 1:
				if hex.EncodeToString(k) != "a0fafe1788542cb123a339392a6c7605" {
					t.Error(k)
				}
			case 10:
				if hex.EncodeToString(k) != "d014f9a8c9ee2589e13f0cc8b6630ca6" {
					t.Error(k)
				}
			}
			clear(k)
			n++
		}
		if n != 11 {
			t.Error(n)
		}
	}
	for range keys {
		break
	}
	x, _ := c.Encrypt(make([]byte, 16))
	right, _ := standard.NewCipher(key)
	want := make([]byte, 16)
	right.Encrypt(want, want)
	if !bytes.Equal(x, want) {
		t.Error(x)
	}
}

func TestInvalid(t *testing.T) {
	for _, n := range []int{0, 1, 15, 17, 24, 32} {
		if c, e := aes.New(make([]byte, n)); c != nil || e != api.ErrArg {
			t.Error(n, c, e)
		}
		c, _ := aes.New(make([]byte, 16))
		x, e := c.Encrypt(make([]byte, n))
		y, f := c.Decrypt(make([]byte, n))
		if len(x)+len(y) != 0 || e != api.ErrArg || f != api.ErrArg {
			t.Error(n, e, f)
		}
	}
	for _, c := range []*aes.Cipher{nil, {}} {
		for _, n := range []int{0, 16} {
			x, e := c.Encrypt(make([]byte, n))
			y, f := c.Decrypt(make([]byte, n))
			if len(x)+len(y) != 0 || e != api.ErrNil || f != api.ErrNil {
				t.Error(n, e, f)
			}
		}
		for i := range c.Keys() {
			t.Error(i)
		}
	}
}
