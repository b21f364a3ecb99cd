package modular_test

import (
	"math/big"
	"math/rand"
	"testing"

	"watchword/api"
	"watchword/modular"
	"watchword/nat"
)

// of returns the number of a big one.
func of(t *testing.T, b *big.Int) nat.Nat {
	t.Helper()
	n, e := nat.FromBytes(b.Bytes())
	if e != api.OK {
		t.Fatal(b, e)
	}
	return n
}

// small returns the number of an int.
func small(t *testing.T, v int) nat.Nat {
	t.Helper()
	return of(t, big.NewInt(int64(v)))
}

// samples returns numbers and moduli of many lengths.
func samples() []*big.Int {
	r := rand.New(rand.NewSource(1))
	one := big.NewInt(1)
	var l []*big.Int
	for _, n := range []uint{0, 1, 3, 32, 64, 400, 512, 513, 768, 1000, 1023, 1024} {
		p := new(big.Int).Lsh(one, n)
		l = append(l, new(big.Int).Sub(p, one), new(big.Int).Rand(r, p))
	}
	return l
}

func equal(t *testing.T, name string, n nat.Nat, e api.Errno, want *big.Int) {
	t.Helper()
	if n.Text() != want.Text(16) || e != api.OK {
		t.Error(name, n.Text(), want.Text(16), e)
	}
}

func TestArithmetic(t *testing.T) {
	l := samples()
	for _, m := range l {
		if m.Sign() == 0 {
			continue
		}
		for _, a := range l {
			n, e := modular.Reduce(of(t, a), of(t, m))
			equal(t, "reduce", n, e, new(big.Int).Mod(a, m))
			n, e = modular.Inverse(of(t, a), of(t, m))
			if inverse := new(big.Int).ModInverse(a, m); inverse != nil {
				equal(t, "inverse", n, e, inverse)
			} else if m.Cmp(big.NewInt(1)) == 0 {
				equal(t, "inverse", n, e, new(big.Int))
			} else if e != api.ErrNone || !n.IsZero() {
				t.Error("inverse", a, m, n.Text(), e)
			}
			for _, b := range l {
				x, y, z := of(t, a), of(t, b), of(t, m)
				n, e := modular.Add(x, y, z)
				equal(t, "add", n, e, new(big.Int).Mod(new(big.Int).Add(a, b), m))
				n, e = modular.Sub(x, y, z)
				equal(t, "sub", n, e, new(big.Int).Mod(new(big.Int).Sub(a, b), m))
				n, e = modular.Mul(x, y, z)
				equal(t, "mul", n, e, new(big.Int).Mod(new(big.Int).Mul(a, b), m))
			}
		}
	}
}

func TestExp(t *testing.T) {
	l := samples()
	for _, m := range l {
		if m.Sign() == 0 {
			continue
		}
		for _, b := range l[:14] {
			for _, a := range l {
				if m.BitLen() > 800 && b.BitLen() > 3 || b.BitLen() > 64 && b.BitLen() != 400 {
					continue
				}
				n, e := modular.Exp(of(t, a), of(t, b), of(t, m))
				equal(t, "exp", n, e, new(big.Int).Exp(a, b, m))
			}
		}
	}
	n, e := modular.Exp(small(t, 3), nat.Nat{}, small(t, 1))
	equal(t, "exp", n, e, new(big.Int))
	n, e = modular.Exp(nat.Nat{}, nat.Nat{}, small(t, 7))
	equal(t, "exp", n, e, big.NewInt(1))
	p, _ := new(big.Int).SetString("FFFFFFFFFFFFFFFFC90FDAA22168C234C4C6628B80DC1CD129024E088A67CC74020BBEA63B139B22514A08798E3404DDEF9519B3CD3A431B302B0A6DF25F14374FE1356D6D51C245E485B576625E7EC6F44C42E9A63A3620FFFFFFFFFFFFFFFF", 16)
	a := new(big.Int).Rand(rand.New(rand.NewSource(3)), p)
	n, e = modular.Exp(of(t, a), of(t, p), of(t, p))
	equal(t, "fermat", n, e, a)
}

func TestZeroModulus(t *testing.T) {
	a, zero := small(t, 5), nat.Nat{}
	r, e := modular.Reduce(a, zero)
	s, f := modular.Add(a, a, zero)
	u, g := modular.Sub(a, a, zero)
	v, h := modular.Mul(a, a, zero)
	w, i := modular.Exp(a, a, zero)
	x, j := modular.Inverse(a, zero)
	for k, e := range []api.Errno{e, f, g, h, i, j} {
		if e != api.ErrArg {
			t.Error(k, e)
		}
	}
	for k, n := range []nat.Nat{r, s, u, v, w, x} {
		if !n.IsZero() {
			t.Error(k, n.Text())
		}
	}
}

func TestPrime(t *testing.T) {
	for v := -3; v < 3000; v++ {
		ok, e := modular.Prime(v)
		want := api.OK
		if v < 0 {
			want = api.ErrArg
		}
		if e != want || ok != (v > 0 && big.NewInt(int64(v)).ProbablyPrime(5)) {
			t.Error(v, ok, e)
		}
	}
	for v, want := range map[int]bool{4294967291: true, 4294967295: false, 4294836225: false, 65537: true, 71850239: true, 2444789759: true} {
		if ok, e := modular.Prime(v); ok != want || e != api.OK {
			t.Error(v, ok, e)
		}
	}
	for _, v := range []int{1 << 32, 1<<63 - 1} {
		if ok, e := modular.Prime(v); ok || e != api.ErrRange {
			t.Error(v, ok, e)
		}
	}
	if _, e := modular.Prime(-1 << 63); e != api.ErrArg {
		t.Error(e)
	}
}

func TestFactors(t *testing.T) {
	for _, v := range []int{2, 3, 4, 12, 97, 360, 65536, 4294836225, 4294967291, 4294967295, 2147483648} {
		factors := modular.Factors(v)
		for range 2 {
			product, last := 1, 1
			for p, n := range factors {
				if ok, _ := modular.Prime(p); !ok || p <= last || n < 1 {
					t.Error(v, p, n)
				}
				last = p
				for range n {
					product *= p
				}
			}
			if product != v {
				t.Error(v, product)
			}
		}
		for p := range factors {
			if v%p != 0 {
				t.Error(v, p)
			}
			break
		}
	}
	for _, v := range []int{-12, -1, 0, 1, 1 << 32, 1<<63 - 1, -1 << 63} {
		for p, n := range modular.Factors(v) {
			t.Error(v, p, n)
		}
	}
}

func TestLaws(t *testing.T) {
	r := rand.New(rand.NewSource(4))
	for range 30 {
		top := new(big.Int).Lsh(big.NewInt(1), uint(5+r.Intn(1000)))
		m := of(t, new(big.Int).Add(new(big.Int).Rand(r, top), big.NewInt(1)))
		a, b := of(t, new(big.Int).Rand(r, top)), of(t, new(big.Int).Rand(r, top))
		d, _ := modular.Sub(a, b, m)
		back, _ := modular.Add(d, b, m)
		residue, _ := modular.Reduce(a, m)
		if back != residue {
			t.Error(a.Text(), b.Text(), m.Text())
		}
		x, y := small(t, r.Intn(1000)), small(t, r.Intn(1000))
		z, _ := x.Add(y)
		p, _ := modular.Exp(a, x, m)
		q, _ := modular.Exp(a, y, m)
		pq, _ := modular.Mul(p, q, m)
		if s, _ := modular.Exp(residue, z, m); s != pq {
			t.Error(a.Text(), m.Text())
		}
		if inverse, e := modular.Inverse(a, m); e == api.OK {
			one, _ := modular.Mul(a, inverse, m)
			if want, _ := modular.Reduce(small(t, 1), m); one != want {
				t.Error(a.Text(), m.Text())
			}
		}
	}
}
