package pake_test

import (
	"bytes"
	"crypto/hmac"
	"crypto/sha256"
	"encoding/binary"
	"math/big"
	"testing"

	"watchword/api"
	"watchword/derive"
	"watchword/group"
	"watchword/pake"
)

func fill(n int, b byte) []byte { return bytes.Repeat([]byte{b}, n) }

func prime(id int) *big.Int {
	p, _ := group.Prime(id)
	return new(big.Int).SetBytes(p.Bytes())
}

// point returns a point, by the definition.
func point(id int, label string) *big.Int {
	p := prime(id)
	for i := 0; ; i++ {
		h := sha256.Sum256(append([]byte(label), byte(id), byte(i)))
		x := new(big.Int).SetBytes(h[:])
		if x.Mod(x.Mul(x, x), p).Cmp(big.NewInt(1)) > 0 {
			return x
		}
	}
}

// model returns the elements and the transcript, by the definition.
func model(id int, secret, context, client, server []byte) (a, b, transcript []byte) {
	p := prime(id)
	q := new(big.Int).Rsh(p, 1)
	n := len(p.Bytes())
	h := hmac.New(sha256.New, []byte("watchword pake secret"))
	h.Write(secret)
	k, _ := derive.KDF(h.Sum(nil), append([]byte("scalar"), byte(id)), nil, 32)
	w := new(big.Int).Mod(new(big.Int).SetBytes(k), q)
	scalar := func(b []byte) *big.Int {
		x := new(big.Int).Mod(new(big.Int).SetBytes(b), q)
		if x.Sign() == 0 {
			x.SetInt64(1)
		}
		return x
	}
	x, y := scalar(client), scalar(server)
	exp := func(g, e *big.Int) *big.Int { return new(big.Int).Exp(g, e, p) }
	mul := func(u, v *big.Int) []byte {
		return new(big.Int).Mod(new(big.Int).Mul(u, v), p).FillBytes(make([]byte, n))
	}
	four := big.NewInt(4)
	a = mul(exp(four, x), exp(point(id, "watchword pake client"), w))
	b = mul(exp(four, y), exp(point(id, "watchword pake server"), w))
	shared := exp(exp(four, x), y).FillBytes(make([]byte, n))
	t := sha256.New()
	for _, s := range [][]byte{context, {byte(id)}, a, b, shared, w.FillBytes(make([]byte, n))} {
		t.Write(binary.BigEndian.AppendUint32(nil, uint32(len(s))))
		t.Write(s)
	}
	return a, b, t.Sum(nil)
}

func start(t *testing.T, s pake.Side, id int, secret, context, private []byte) *pake.Exchange {
	t.Helper()
	x, e := pake.Start(s, id, secret, context, private)
	if e != api.OK {
		t.Fatal(e)
	}
	return x
}

func TestPoints(t *testing.T) {
	for id := 1; id <= 4; id++ {
		m, n, e := pake.Points(id)
		if e != api.OK || new(big.Int).SetBytes(m).Cmp(point(id, "watchword pake client")) != 0 || new(big.Int).SetBytes(n).Cmp(point(id, "watchword pake server")) != 0 || len(m) != group.Len(id) || len(n) != group.Len(id) {
			t.Error(id, m, n, e)
		}
	}
	for _, id := range []int{0, 5, -1, 1 << 62} {
		if m, n, e := pake.Points(id); e != api.ErrArg || len(m)+len(n) != 0 {
			t.Error(id, e)
		}
	}
}

func TestExchange(t *testing.T) {
	for id := 1; id <= 4; id++ {
		for i, context := range [][]byte{nil, []byte("context"), make([]byte, 4096)} {
			secret := fill(1+i*100, 7)
			cp, sp := fill(32, byte(3+id)), fill(32, byte(5+i))
			if id == 2 {
				cp = make([]byte, 32)
			}
			a, b, transcript := model(id, secret, context, cp, sp)
			c, s := start(t, pake.SideClient, id, secret, context, cp), start(t, pake.SideServer, id, secret, context, sp)
			if !bytes.Equal(c.Element(), a) || !bytes.Equal(s.Element(), b) {
				t.Error(id, "elements")
			}
			one := make([]byte, group.Len(id))
			one[len(one)-1] = 1
			if bytes.Equal(a, one) || bytes.Equal(b, one) {
				continue
			}
			if e, f := c.Finish(b), s.Finish(a); e != api.OK || f != api.OK {
				t.Error(id, e, f)
			}
			for label, x := range map[string]*pake.Exchange{"client": c, "server": s} {
				want, _ := derive.KDF(transcript, []byte("key"), nil, 32)
				confirmation, _ := derive.KDF(transcript, []byte(label), nil, 32)
				k, e := x.Key()
				d, f := x.Confirm()
				if !bytes.Equal(k, want) || !bytes.Equal(d, confirmation) || e != api.OK || f != api.OK {
					t.Error(id, label, e, f)
				}
			}
			cc, _ := c.Confirm()
			sc, _ := s.Confirm()
			if c.Verify(sc) != api.OK || s.Verify(cc) != api.OK || c.Verify(cc) != api.ErrCheck || s.Verify(sc) != api.ErrCheck || c.Verify(sc[1:]) != api.ErrCheck || c.Verify(nil) != api.ErrCheck || c.Verify(append(sc, 0)) != api.ErrCheck {
				t.Error(id, "verify")
			}
			if c.Finish(b) != api.ErrState || c.Finish(nil) != api.ErrState {
				t.Error(id, "finish")
			}
		}
	}
}

func TestOtherSecret(t *testing.T) {
	for i, x := range []struct{ secret, context string }{{"secret", "c"}, {"secreT", ""}, {"secret", ""}} {
		c, s := start(t, pake.SideClient, 3, []byte("secret"), nil, fill(32, 3)), start(t, pake.SideServer, 3, []byte(x.secret), []byte(x.context), fill(32, 5))
		c.Finish(s.Element())
		s.Finish(c.Element())
		a, _ := c.Key()
		b, _ := s.Key()
		d, _ := s.Confirm()
		want := api.ErrCheck
		if i == 2 {
			want = api.OK
		}
		if bytes.Equal(a, b) != (i == 2) || c.Verify(d) != want {
			t.Error(i)
		}
	}
}

func TestErrors(t *testing.T) {
	for i, x := range []struct {
		side                     pake.Side
		id                       int
		secret, context, private []byte
	}{{pake.SideClient, 5, fill(1, 1), nil, fill(32, 1)}, {pake.SideClient, 0, fill(1, 1), nil, fill(32, 1)}, {3, 3, fill(1, 1), nil, fill(32, 1)}, {0, 3, fill(1, 1), nil, fill(32, 1)}, {pake.SideServer, 3, nil, nil, fill(32, 1)}, {pake.SideServer, 3, fill(257, 1), nil, fill(32, 1)}, {pake.SideServer, 3, fill(1, 1), fill(4097, 1), fill(32, 1)}, {pake.SideServer, 3, fill(1, 1), nil, fill(31, 1)}, {pake.SideServer, 3, fill(1, 1), nil, fill(33, 1)}} {
		if y, e := pake.Start(x.side, x.id, x.secret, x.context, x.private); y != nil || e != api.ErrArg {
			t.Error(i, e)
		}
	}
	c := start(t, pake.SideClient, 3, fill(256, 1), nil, fill(32, 3))
	k, e := c.Key()
	d, f := c.Confirm()
	if e != api.ErrState || f != api.ErrState || c.Verify(nil) != api.ErrState || len(k)+len(d) != 0 {
		t.Error(e, f)
	}
	p := prime(3).FillBytes(make([]byte, 4))
	for i, peer := range [][]byte{nil, {0, 0, 0, 0}, {0, 0, 0, 1}, {0, 0, 4}, {0, 0, 0, 0, 4}, p, {255, 255, 255, 255}, new(big.Int).Sub(prime(3), big.NewInt(1)).Bytes()} {
		if e := c.Finish(peer); e != api.ErrFormat {
			t.Error(i, e)
		}
	}
	if e := c.Finish([]byte{0, 0, 0, 4}); e != api.OK {
		t.Error(e)
	}
	for _, x := range []*pake.Exchange{nil, {}} {
		k, e := x.Key()
		d, f := x.Confirm()
		if e != api.ErrNil || f != api.ErrNil || x.Verify(nil) != api.ErrNil || x.Finish(nil) != api.ErrNil || len(k)+len(d)+len(x.Element()) != 0 || x.Copy() != nil {
			t.Error(e, f)
		}
	}
}

func TestCopy(t *testing.T) {
	secret, context, private := []byte("s"), []byte("c"), fill(32, 9)
	c := start(t, pake.SideClient, 3, secret, context, private)
	clear(secret)
	clear(context)
	clear(private)
	s := start(t, pake.SideServer, 3, []byte("s"), []byte("c"), fill(32, 8))
	d := c.Copy()
	c.Element()[0] ^= 1
	if c.Finish(s.Element()) != api.OK || d.Finish(s.Element()) != api.OK {
		t.Error("finish")
	}
	s.Finish(d.Element())
	a, _ := c.Key()
	b, _ := d.Copy().Key()
	k, _ := s.Key()
	if !bytes.Equal(a, b) || !bytes.Equal(a, k) {
		t.Error("keys")
	}
}
