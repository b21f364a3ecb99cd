package sign_test

import (
	"bytes"
	"crypto/sha256"
	"math/big"
	"math/rand"
	"slices"
	"testing"

	"watchword/api"
	"watchword/group"
	"watchword/nat"
	"watchword/sign"
)

// right returns a signature, by the definition.
func right(id int, private, nonce, message []byte) []byte {
	prime, _ := group.Prime(id)
	p := new(big.Int).SetBytes(prime.Bytes())
	q := new(big.Int).Rsh(p, 1)
	n := len(p.Bytes())
	x := new(big.Int).SetBytes(private)
	k := new(big.Int).Mod(new(big.Int).SetBytes(nonce), q)
	four := big.NewInt(4)
	h := sha256.New()
	h.Write([]byte{byte(id)})
	h.Write(new(big.Int).Exp(four, x, p).FillBytes(make([]byte, n)))
	h.Write(new(big.Int).Exp(four, k, p).FillBytes(make([]byte, n)))
	h.Write(message)
	e := new(big.Int).Mod(new(big.Int).SetBytes(h.Sum(nil)), q)
	s := new(big.Int).Mod(new(big.Int).Add(k, new(big.Int).Mul(e, x)), q)
	return append(e.FillBytes(make([]byte, n)), s.FillBytes(make([]byte, n))...)
}

func TestKeys(t *testing.T) {
	for _, x := range []struct {
		id   int
		seed []byte
		want []byte
	}{{1, []byte{6}, []byte{0, 6}}, {1, []byte{5, 0xa0}, []byte{0, 1}}, {1, []byte{1, 0, 0, 0}, []byte{3, 0x96}}, {1, []byte{0}, nil}, {1, nil, nil}, {1, []byte{5, 0x9f}, nil}, {0, []byte{6}, nil}, {5, []byte{6}, nil}, {2, []byte{9}, []byte{0, 0, 0, 9}}} {
		b, e := sign.Private(x.id, x.seed)
		if x.want == nil {
			if e != api.ErrArg || len(b) != 0 {
				t.Error(x, b, e)
			}
		} else if v := new(big.Int).Mod(new(big.Int).SetBytes(x.seed), big.NewInt(1439)); e != api.OK || !bytes.Equal(b, x.want) && (x.id != 1 || !bytes.Equal(b, v.FillBytes(make([]byte, 2)))) {
			t.Error(x, b, e)
		}
	}
	if b, e := sign.Public(1, []byte{0, 6}); !bytes.Equal(b, []byte{4, 0xc1}) || e != api.OK {
		t.Error(b, e)
	}
	for _, private := range [][]byte{nil, {6}, {0, 0, 6}, {0, 0}, {5, 0x9f}, {0xff, 0xff}} {
		b, e := sign.Public(1, private)
		c, f := sign.Sign(1, private, []byte{7}, nil)
		if e != api.ErrArg || f != api.ErrArg || len(b)+len(c) != 0 {
			t.Error(private, e, f)
		}
	}
	if _, e := sign.Public(9, []byte{0, 6}); e != api.ErrArg {
		t.Error(e)
	}
	for id, n := range map[int]int{1: 4, 2: 8, 3: 8, 4: 192, 0: 0, 5: 0, -1: 0} {
		if sign.Len(id) != n {
			t.Error(id, sign.Len(id))
		}
	}
	if !sign.Valid(1, []byte{4, 0xc1}) || !sign.Valid(1, []byte{0, 1}) || sign.Valid(1, []byte{0xb, 0x3e}) || sign.Valid(1, []byte{0, 0}) || sign.Valid(1, []byte{4}) || sign.Valid(9, []byte{0, 1}) || sign.Valid(1, []byte{0, 0, 1}) || sign.Valid(1, nil) {
		t.Error("valid")
	}
}

func TestSignVerify(t *testing.T) {
	r := rand.New(rand.NewSource(1))
	for id := 1; id <= 4; id++ {
		for range 8 {
			seed, nonce, message := make([]byte, 100), make([]byte, 40), make([]byte, r.Intn(100))
			r.Read(seed)
			r.Read(nonce)
			r.Read(message)
			private, _ := sign.Private(id, seed)
			public, _ := sign.Public(id, private)
			s, e := sign.Sign(id, private, nonce, message)
			again, _ := sign.Sign(id, private, nonce, message)
			if !bytes.Equal(s, right(id, private, nonce, message)) || !bytes.Equal(s, again) || e != api.OK || sign.Verify(id, public, message, s) != api.OK || !sign.Valid(id, public) {
				t.Error(id, s, e)
			}
			if id < 2 {
				continue
			}
			if sign.Verify(id, public, append(message, 0), s) != api.ErrCheck {
				t.Error(id)
			}
			for _, i := range []int{0, len(s)/2 - 1, len(s) / 2, len(s) - 1} {
				wrong := bytes.Clone(s)
				wrong[i] ^= 1
				if sign.Verify(id, public, message, wrong) != api.ErrCheck {
					t.Error(id, i)
				}
			}
		}
	}
	longest, e := sign.Sign(1, []byte{0, 6}, []byte{7}, make([]byte, sign.MaxMessage))
	y, _ := sign.Public(1, []byte{0, 6})
	if f := sign.Verify(1, y, make([]byte, sign.MaxMessage), longest); e != api.OK || f != api.OK {
		t.Error(e, f)
	}
}

func TestErrors(t *testing.T) {
	private, public, message := []byte{0, 6}, []byte{4, 0xc1}, []byte("m")
	s, e := sign.Sign(1, private, []byte{7}, message)
	if e != api.OK || sign.Verify(1, public, message, s) != api.OK {
		t.Fatal(e)
	}
	for i, x := range []struct {
		id             int
		nonce, message []byte
	}{{0, []byte{7}, message}, {5, []byte{7}, message}, {1, nil, message}, {1, []byte{0}, message}, {1, []byte{5, 0x9f}, message}, {1, []byte{7}, make([]byte, 65537)}} {
		if s, e := sign.Sign(x.id, private, x.nonce, x.message); e != api.ErrArg || len(s) != 0 {
			t.Error(i, e)
		}
	}
	for i, x := range []struct {
		id                         int
		public, message, signature []byte
		want                       api.Errno
	}{
		{0, public, message, s, api.ErrArg}, {1, public[:1], message, s, api.ErrArg}, {1, []byte{0, 0}, message, s, api.ErrArg}, {1, []byte{0xb, 0x3e}, message, s, api.ErrArg}, {1, public, make([]byte, 65537), nil, api.ErrArg}, {1, nil, message, nil, api.ErrArg},
		{1, public, message, s[:3], api.ErrCheck}, {1, public, message, append(slices.Clone(s), 0), api.ErrCheck}, {1, public, message, nil, api.ErrCheck}, {1, public, message, []byte{0xff, 0xff, 0xff, 0xff}, api.ErrCheck},
	} {
		if e := sign.Verify(x.id, x.public, x.message, x.signature); e != x.want {
			t.Error(i, e)
		}
	}
	// A number that is not a scalar is refused, although it is congruent to the right one.
	for i := range 2 {
		wrong := slices.Clone(s)
		v := int(wrong[2*i])<<8 | int(wrong[2*i+1]) + 1439
		wrong[2*i], wrong[2*i+1] = byte(v>>8), byte(v)
		v = int(s[2*i])<<8 + int(s[2*i+1]) + 1439
		wrong[2*i], wrong[2*i+1] = byte(v>>8), byte(v)
		if sign.Verify(1, public, message, wrong) != api.ErrCheck {
			t.Error(i)
		}
	}
}

func TestZeroChallenge(t *testing.T) {
	// For about one of 1439 messages the challenge is 0.
	private, public := []byte{0, 6}, []byte{4, 0xc1}
	found := false
	for i := range 20000 {
		message := []byte{byte(i >> 8), byte(i)}
		s, _ := sign.Sign(1, private, []byte{7}, message)
		if s[0] == 0 && s[1] == 0 {
			found = true
			if sign.Verify(1, public, message, s) != api.OK {
				t.Error(i)
			}
			break
		}
	}
	if !found {
		t.Error("no challenge is 0")
	}
}

func TestParts(t *testing.T) {
	s := []byte{0xff, 1, 0, 2}
	parts := sign.Parts(1, s)
	clear(s)
	for range 2 {
		got := slices.Collect(parts)
		if len(got) != 2 || got[0].Text() != "ff01" || got[1].Text() != "2" {
			t.Error(got)
		}
	}
	for n := range parts {
		if n.Text() != "ff01" {
			t.Error(n.Text())
		}
		break
	}
	for i, p := range [][]nat.Nat{slices.Collect(sign.Parts(1, make([]byte, 3))), slices.Collect(sign.Parts(1, make([]byte, 5))), slices.Collect(sign.Parts(0, nil)), slices.Collect(sign.Parts(9, make([]byte, 4))), slices.Collect(sign.Parts(1, nil))} {
		if len(p) != 0 {
			t.Error(i, p)
		}
	}
}
