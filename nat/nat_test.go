package nat_test

import (
	"math/big"
	"math/rand"
	"slices"
	"strings"
	"testing"

	"watchword/api"
	"watchword/nat"
)

var limit = new(big.Int).Lsh(big.NewInt(1), nat.MaxBits)

// of returns the number of a big one.
func of(t *testing.T, b *big.Int) nat.Nat {
	t.Helper()
	n, e := nat.FromBytes(b.Bytes())
	if e != api.OK {
		t.Fatal(b, e)
	}
	return n
}

// samples returns numbers with many kinds of digits.
func samples() []*big.Int {
	r := rand.New(rand.NewSource(1))
	l := []*big.Int{new(big.Int), big.NewInt(1), big.NewInt(2), new(big.Int).Sub(limit, big.NewInt(1)), new(big.Int).Rsh(limit, 1)}
	for _, n := range []int{31, 32, 33, 63, 64, 65, 500, 511, 512, 513, 768, 1000, 1023} {
		p := new(big.Int).Lsh(big.NewInt(1), uint(n))
		l = append(l, p, new(big.Int).Sub(p, big.NewInt(1)), new(big.Int).Add(p, big.NewInt(1)))
		for range 3 {
			l = append(l, new(big.Int).Rand(r, p))
		}
	}
	// Digits that are all ones or zeros make estimated quotient digits wrong.
	for range 40 {
		b := make([]byte, 4*(1+r.Intn(32)))
		for i := 0; i < len(b); i += 4 {
			copy(b[i:], [][]byte{{0, 0, 0, 0}, {255, 255, 255, 255}, {128, 0, 0, 0}, {127, 255, 255, 255}}[r.Intn(4)])
		}
		l = append(l, new(big.Int).SetBytes(b))
	}
	return l
}

func TestBytesIntText(t *testing.T) {
	for _, b := range samples() {
		n := of(t, b)
		if n.Text() != b.Text(16) || !slices.Equal(n.Bytes(), b.Bytes()) {
			t.Error(b.Text(16), n.Text(), n.Bytes())
		}
		p, e := nat.Parse(b.Text(16))
		if p != n || e != api.OK {
			t.Error(b.Text(16), p.Text(), e)
		}
		long, e := nat.FromBytes(append(make([]byte, 200), b.Bytes()...))
		if long != n || e != api.OK {
			t.Error(b.Text(16), long.Text(), e)
		}
		v, e := n.Int()
		if b.Cmp(big.NewInt(1<<62)) <= 0 {
			w, f := nat.FromInt(v)
			if e != api.OK || int64(v) != b.Int64() || w != n || f != api.OK {
				t.Error(b, v, e, f)
			}
		} else if e != api.ErrRange || v != 0 {
			t.Error(b, v, e)
		}
	}
	if v, e := mustParse(t, "4000000000000000").Int(); v != 1<<62 || e != api.OK {
		t.Error(v, e)
	}
	for _, s := range []string{"4000000000000001", "8000000000000000", "10000000000000000"} {
		if v, e := mustParse(t, s).Int(); v != 0 || e != api.ErrRange {
			t.Error(s, v, e)
		}
	}
	if v, e := nat.FromInt(1<<63 - 1); v.Text() != "7fffffffffffffff" || e != api.OK {
		t.Error(v.Text(), e)
	}
}

// mustParse returns the number with a string.
func mustParse(t *testing.T, s string) nat.Nat {
	t.Helper()
	n, e := nat.Parse(s)
	if e != api.OK {
		t.Fatal(s, e)
	}
	return n
}

func TestInvalid(t *testing.T) {
	zero := nat.Nat{}
	for _, s := range []string{"", "00", "01", "A", "g", "/", ":", "`", "1 ", "-1", "0x1", "\x00", "1G" + strings.Repeat("f", 300), "é"} {
		if n, e := nat.Parse(s); n != zero || e != api.ErrFormat {
			t.Error(s, n.Text(), e)
		}
	}
	if n, e := nat.Parse("1" + strings.Repeat("0", 256)); n != zero || e != api.ErrFull {
		t.Error(n.Text(), e)
	}
	if n, e := nat.Parse(strings.Repeat("f", 256)); n.BitLen() != 1024 || e != api.OK {
		t.Error(n.Text(), e)
	}
	if n, e := nat.FromBytes(append([]byte{1}, make([]byte, 128)...)); n != zero || e != api.ErrFull {
		t.Error(n.Text(), e)
	}
	if n, e := nat.FromInt(-1); n != zero || e != api.ErrArg {
		t.Error(n.Text(), e)
	}
	if n, e := nat.FromInt(-1 << 63); n != zero || e != api.ErrArg {
		t.Error(n.Text(), e)
	}
	if n := (nat.Nat{}); n.Text() != "0" || len(n.Bytes()) != 0 || !n.IsZero() || n.BitLen() != 0 {
		t.Error(n.Text())
	}
}

func TestBytesAreNew(t *testing.T) {
	b := []byte{1, 2}
	n, _ := nat.FromBytes(b)
	b[0] = 9
	n.Bytes()[0] = 7
	if n.Text() != "102" {
		t.Error(n.Text())
	}
}

func TestCompareAndBits(t *testing.T) {
	l := samples()
	for _, a := range l {
		n := of(t, a)
		if n.IsZero() != (a.Sign() == 0) || n.BitLen() != a.BitLen() {
			t.Error(a, n.IsZero(), n.BitLen())
		}
		var want []int
		for i := nat.MaxBits; i >= -1; i-- {
			bit := i >= 0 && a.Bit(i) == 1
			if n.Bit(i) != bit {
				t.Error(a, i)
			}
			if bit {
				want = append(want, i)
			}
		}
		ones := n.Ones()
		if got := slices.Collect(ones); !slices.Equal(got, want) {
			t.Error(a, got)
		}
		for i := range ones {
			if i != want[0] {
				t.Error(a, i)
			}
			break
		}
		if got := slices.Collect(ones); !slices.Equal(got, want) {
			t.Error(a, got)
		}
		for _, b := range l {
			if n.Compare(of(t, b)) != a.Cmp(b) {
				t.Error(a, b, n.Compare(of(t, b)))
			}
		}
		if n.Bit(-1<<63) || n.Bit(1<<63-1) {
			t.Error(a)
		}
	}
}

func TestAddSubMul(t *testing.T) {
	l := samples()
	for _, a := range l {
		for _, b := range l {
			x, y := of(t, a), of(t, b)
			s, e := x.Add(y)
			check(t, "add", s, e, new(big.Int).Add(a, b))
			s, e = x.Sub(y)
			check(t, "sub", s, e, new(big.Int).Sub(a, b))
			s, e = x.Mul(y)
			check(t, "mul", s, e, new(big.Int).Mul(a, b))
		}
	}
}

// check checks a result against the right number, which may be out of range.
func check(t *testing.T, name string, s nat.Nat, e api.Errno, want *big.Int) {
	t.Helper()
	switch {
	case want.Sign() < 0:
		if s != (nat.Nat{}) || e != api.ErrRange {
			t.Error(name, s.Text(), e)
		}
	case want.Cmp(limit) >= 0:
		if s != (nat.Nat{}) || e != api.ErrFull {
			t.Error(name, s.Text(), e)
		}
	case s.Text() != want.Text(16) || e != api.OK:
		t.Error(name, s.Text(), want.Text(16), e)
	}
}

func TestDivide(t *testing.T) {
	l := samples()
	for _, a := range l {
		for _, b := range l {
			q, r, e := of(t, a).Divide(of(t, b))
			if b.Sign() == 0 {
				if e != api.ErrArg || !q.IsZero() || !r.IsZero() {
					t.Error(a, q.Text(), r.Text(), e)
				}
				continue
			}
			d, m := new(big.Int).DivMod(a, b, new(big.Int))
			if q.Text() != d.Text(16) || r.Text() != m.Text(16) || e != api.OK {
				t.Error(a, b, q.Text(), r.Text(), e)
			}
			p, f := q.Mul(of(t, b))
			s, g := p.Add(r)
			if f != api.OK || g != api.OK || s != of(t, a) || r.Compare(of(t, b)) >= 0 {
				t.Error(a, b, f, g)
			}
		}
	}
}

func TestShiftAndGCD(t *testing.T) {
	l := samples()
	for _, a := range l {
		for _, n := range []int{0, 1, 5, 31, 32, 33, 64, 511, 1000, 1023, 1024, 1025, 1<<63 - 1} {
			x, e := of(t, a).ShiftLeft(n)
			switch {
			case a.Sign() == 0:
				if !x.IsZero() || e != api.OK {
					t.Error(n, x.Text(), e)
				}
			case n > 1024:
				if !x.IsZero() || e != api.ErrFull {
					t.Error(n, x.Text(), e)
				}
			default:
				check(t, "left", x, e, new(big.Int).Lsh(a, uint(n)))
			}
			x, e = of(t, a).ShiftRight(n)
			check(t, "right", x, e, new(big.Int).Rsh(a, uint(min(n, 2000))))
		}
		for _, n := range []int{-1, -1 << 63} {
			x, e := of(t, a).ShiftLeft(n)
			y, f := of(t, a).ShiftRight(n)
			if !x.IsZero() || !y.IsZero() || e != api.ErrArg || f != api.ErrArg {
				t.Error(a, n, e, f)
			}
		}
		for _, b := range l {
			if g := nat.GCD(of(t, a), of(t, b)); g.Text() != new(big.Int).GCD(nil, nil, a, b).Text(16) {
				t.Error(a, b, g.Text())
			}
		}
	}
}

func TestLaws(t *testing.T) {
	r := rand.New(rand.NewSource(2))
	for range 200 {
		p := new(big.Int).Lsh(big.NewInt(1), 300)
		a, b, c := of(t, new(big.Int).Rand(r, p)), of(t, new(big.Int).Rand(r, p)), of(t, new(big.Int).Rand(r, p))
		ab, _ := a.Mul(b)
		ba, _ := b.Mul(a)
		ac, _ := a.Mul(c)
		abc, _ := ab.Mul(c)
		bc, _ := b.Mul(c)
		cba, _ := a.Mul(bc)
		s, _ := b.Add(c)
		u, _ := c.Add(b)
		as, _ := a.Mul(s)
		sum, _ := ab.Add(ac)
		x, _ := a.Add(s)
		y, _ := a.Add(b)
		z, _ := y.Add(c)
		if ab != ba || abc != cba || s != u || as != sum || x != z {
			t.Error(a.Text(), b.Text(), c.Text())
		}
	}
}
