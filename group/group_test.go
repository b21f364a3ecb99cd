package group_test

import (
	"bytes"
	"math/big"
	"math/rand"
	"slices"
	"testing"

	"watchword/api"
	"watchword/group"
	"watchword/nat"
)

// primes are the primes of the groups, in hexadecimal.
var primes = []string{"", "b3f", "44858ff", "91b887ff", "ffffffffffffffffc90fdaa22168c234c4c6628b80dc1cd129024e088a67cc74020bbea63b139b22514a08798e3404ddef9519b3cd3a431b302b0a6df25f14374fe1356d6d51c245e485b576625e7ec6f44c42e9a63a3620ffffffffffffffff"}

func big16(s string) *big.Int {
	b, _ := new(big.Int).SetString(s, 16)
	return b
}

func of(b *big.Int) nat.Nat {
	n, _ := nat.FromBytes(b.Bytes())
	return n
}

func small(v int) nat.Nat {
	n, _ := nat.FromInt(v)
	return n
}

// must returns a value whose call must have no error.
func must[T any](v T, e api.Errno) T {
	if e != api.OK {
		panic(e)
	}
	return v
}

func TestParameters(t *testing.T) {
	for id := 1; id <= 4; id++ {
		p := big16(primes[id])
		q := new(big.Int).Rsh(p, 1)
		if must(group.Prime(id)) != of(p) || must(group.Order(id)) != of(q) || must(group.Generator(id)) != small(4) || group.Len(id) != len(p.Bytes()) {
			t.Error(id)
		}
	}
	var ids []int
	each := group.Each()
	for id := range each {
		ids = append(ids, id)
		break
	}
	for id, p := range each {
		ids = append(ids, id)
		if p.Text() != primes[id] {
			t.Error(id, p.Text())
		}
	}
	if !slices.Equal(ids, []int{1, 1, 2, 3, 4}) || group.Groups != 4 {
		t.Error(ids)
	}
}

func TestNoGroup(t *testing.T) {
	one := small(1)
	for _, id := range []int{0, 5, -1, 9, 1 << 62, -1 << 63} {
		a, e1 := group.Prime(id)
		b, e2 := group.Order(id)
		c, e3 := group.Generator(id)
		d, e4 := group.Scalar(id, []byte{1})
		f, e5 := group.Power(id, one)
		g, e6 := group.Exp(id, one, one)
		h, e7 := group.Mul(id, one, one)
		i, e8 := group.Inverse(id, one)
		j, e9 := group.AddScalars(id, one, one)
		k, e10 := group.MulScalars(id, one, one)
		l, e11 := group.Element(id, []byte{0, 1})
		m, e12 := group.Number(id, []byte{0, 1})
		n, e13 := group.Bytes(id, one)
		o, e14 := group.ScalarBytes(id, one)
		for x, e := range []api.Errno{e1, e2, e3, e4, e5, e6, e7, e8, e9, e10, e11, e12, e13, e14} {
			if e != api.ErrArg {
				t.Error(id, x, e)
			}
		}
		for x, v := range []nat.Nat{a, b, c, d, f, g, h, i, j, k, l, m} {
			if !v.IsZero() {
				t.Error(id, x, v.Text())
			}
		}
		if len(n)+len(o) != 0 || group.Len(id) != 0 || group.Member(id, one) {
			t.Error(id, n, o)
		}
	}
}

func TestMember(t *testing.T) {
	p := big.NewInt(2879)
	for v := range 3000 {
		want := v > 0 && v < 2879 && big.Jacobi(big.NewInt(int64(v)), p) == 1
		if group.Member(1, small(v)) != want {
			t.Error(v)
		}
	}
	r := rand.New(rand.NewSource(1))
	for id := 2; id <= 4; id++ {
		p := big16(primes[id])
		for range 20 {
			v := new(big.Int).Rand(r, p)
			if group.Member(id, of(v)) != (big.Jacobi(v, p) == 1) {
				t.Error(id, v)
			}
		}
		square := new(big.Int).Add(p, big.NewInt(4))
		if group.Member(id, of(square)) || group.Member(id, of(p)) || group.Member(id, nat.Nat{}) || !group.Member(id, small(1)) {
			t.Error(id)
		}
	}
}

func TestScalar(t *testing.T) {
	r := rand.New(rand.NewSource(2))
	for id := 1; id <= 4; id++ {
		q := new(big.Int).Rsh(big16(primes[id]), 1)
		for _, n := range []int{0, 1, 2, 3, 4, 5, 32, 64, 95, 96, 97, 128, 129, 300, 1001} {
			b := make([]byte, n)
			r.Read(b)
			if n == 4 {
				b = []byte{255, 255, 255, 255}
			}
			want := new(big.Int).Mod(new(big.Int).SetBytes(b), q)
			if s, e := group.Scalar(id, b); s != of(want) || e != api.OK {
				t.Error(id, n, s.Text(), e)
			}
		}
	}
}

func TestPowers(t *testing.T) {
	r := rand.New(rand.NewSource(3))
	for id := 1; id <= 4; id++ {
		p := big16(primes[id])
		q := new(big.Int).Rsh(p, 1)
		for range 5 {
			a, b := new(big.Int).Rand(r, q), new(big.Int).Rand(r, q)
			x, y := must(group.Power(id, of(a))), must(group.Power(id, of(b)))
			if x != of(new(big.Int).Exp(big.NewInt(4), a, p)) || !group.Member(id, x) {
				t.Error(id, a)
			}
			z, sum := must(group.Mul(id, x, y)), must(group.AddScalars(id, of(a), of(b)))
			if z != must(group.Power(id, sum)) || sum != of(new(big.Int).Mod(new(big.Int).Add(a, b), q)) {
				t.Error(id, a, b)
			}
			product := must(group.MulScalars(id, of(a), of(b)))
			if product != of(new(big.Int).Mod(new(big.Int).Mul(a, b), q)) {
				t.Error(id, a, b)
			}
			if u := must(group.Exp(id, x, of(b))); u != must(group.Exp(id, y, of(a))) || u != must(group.Power(id, product)) {
				t.Error(id, a, b)
			}
			if must(group.Mul(id, x, must(group.Inverse(id, x)))) != small(1) {
				t.Error(id, a)
			}
			if must(group.Exp(id, x, nat.Nat{})) != small(1) {
				t.Error(id, a)
			}
		}
	}
	if must(group.Power(1, small(6))) != small(1217) || must(group.Power(1, nat.Nat{})) != small(1) || must(group.Power(1, small(1438))).IsZero() {
		t.Error("power")
	}
}

func TestRanges(t *testing.T) {
	one, four, no, scalar := small(1), small(4), small(2878), small(1439)
	calls := []func() (nat.Nat, api.Errno){
		func() (nat.Nat, api.Errno) { return group.Power(1, scalar) },
		func() (nat.Nat, api.Errno) { return group.Exp(1, no, one) },
		func() (nat.Nat, api.Errno) { return group.Exp(1, four, scalar) },
		func() (nat.Nat, api.Errno) { return group.Mul(1, no, four) },
		func() (nat.Nat, api.Errno) { return group.Mul(1, four, nat.Nat{}) },
		func() (nat.Nat, api.Errno) { return group.Inverse(1, nat.Nat{}) },
		func() (nat.Nat, api.Errno) { return group.Inverse(1, small(2879+4)) },
		func() (nat.Nat, api.Errno) { return group.AddScalars(1, scalar, one) },
		func() (nat.Nat, api.Errno) { return group.AddScalars(1, one, scalar) },
		func() (nat.Nat, api.Errno) { return group.MulScalars(1, scalar, one) },
		func() (nat.Nat, api.Errno) { return group.MulScalars(1, one, scalar) },
		func() (nat.Nat, api.Errno) { return group.Element(1, []byte{0x0b, 0x3e}) },
		func() (nat.Nat, api.Errno) { return group.Element(1, []byte{0, 0}) },
		func() (nat.Nat, api.Errno) { return group.Number(1, []byte{0x05, 0x9f}) },
	}
	for i, call := range calls {
		if n, e := call(); !n.IsZero() || e != api.ErrRange {
			t.Error(i, n.Text(), e)
		}
	}
	b, e := group.Bytes(1, no)
	c, f := group.ScalarBytes(1, scalar)
	if len(b)+len(c) != 0 || e != api.ErrRange || f != api.ErrRange {
		t.Error(b, c, e, f)
	}
}

func TestBytes(t *testing.T) {
	for id := 1; id <= 4; id++ {
		for _, v := range []int{0, 1, 6, 300, 1438} {
			x := must(group.Power(id, small(v)))
			b := must(group.Bytes(id, x))
			if len(b) != group.Len(id) || !bytes.Equal(bytes.TrimLeft(b, "\x00"), x.Bytes()) || must(group.Element(id, b)) != x {
				t.Error(id, v, b)
			}
			s := must(group.ScalarBytes(id, small(v)))
			if len(s) != group.Len(id) || must(group.Number(id, s)) != small(v) {
				t.Error(id, v, s)
			}
		}
		for _, read := range []func(int, []byte) (nat.Nat, api.Errno){group.Element, group.Number} {
			short, e := read(id, make([]byte, group.Len(id)-1))
			long, f := read(id, make([]byte, group.Len(id)+1))
			_, g := read(id, nil)
			if e != api.ErrShort || f != api.ErrLong || g != api.ErrShort || !short.IsZero() || !long.IsZero() {
				t.Error(id, e, f, g)
			}
		}
	}
	if b := must(group.Bytes(1, small(4))); !bytes.Equal(b, []byte{0, 4}) {
		t.Error(b)
	}
}
