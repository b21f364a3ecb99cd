package modular

import (
	"watchword/api"
	"watchword/nat"
)

// modulus is a number other than 0; its methods take and return residues unless they say otherwise.
type modulus struct{ nat.Nat }

// residue returns the residue of any number.
func (m modulus) residue(a nat.Nat) nat.Nat {
	_, r, e := a.Divide(m.Nat)
	return certain(r, e)
}

// one returns the residue of 1.
func (m modulus) one() nat.Nat {
	return m.residue(certain(nat.FromInt(1)))
}

// sum returns the sum of residues.
func (m modulus) sum(residues ...nat.Nat) nat.Nat {
	var total nat.Nat
	for _, r := range residues {
		// The sum itself may have too many bits: what is missing to the modulus is subtracted instead.
		reduced, e := total.Sub(certain(m.Sub(r)))
		if e != api.OK {
			reduced = certain(total.Add(r))
		}
		total = reduced
	}
	return total
}

// difference returns the first residue minus the others.
func (m modulus) difference(residues ...nat.Nat) nat.Nat {
	total := m.sum(residues[:1]...)
	for _, r := range residues[1:] {
		total = m.sum(total, m.residue(certain(m.Sub(r))))
	}
	return total
}

// products returns the product of residues.
func (m modulus) products(residues ...nat.Nat) nat.Nat {
	result := m.one()
	for _, r := range residues {
		result = m.product(result, r)
	}
	return result
}

// product returns the product of two residues.
func (m modulus) product(a, b nat.Nat) nat.Nat {
	if p, e := a.Mul(b); e == api.OK {
		return m.residue(p)
	}
	add := func(total, digit nat.Nat) nat.Nat {
		return m.sum(total, m.residue(certain(a.Mul(digit))))
	}
	return ladder(b, max(m.room(), 1), nat.Nat{}, m.double, add)
}

// power returns a residue to the power of any number.
func (m modulus) power(base, exponent nat.Nat) nat.Nat {
	add := func(total, _ nat.Nat) nat.Nat { return m.product(total, base) }
	return ladder(exponent, 1, m.one(), m.square, add)
}

// room returns by how many bits a residue can be shifted.
func (m modulus) room() int { return nat.MaxBits - m.BitLen() }

// double returns a residue times 2^n.
func (m modulus) double(a nat.Nat, n int) nat.Nat {
	for n > 0 {
		step := min(n, m.room())
		if step == 0 {
			a = m.sum(a, a)
			n--
			continue
		}
		a = m.residue(certain(a.ShiftLeft(step)))
		n -= step
	}
	return a
}

// square squares a residue n times.
func (m modulus) square(a nat.Nat, n int) nat.Nat {
	for range n {
		a = m.product(a, a)
	}
	return a
}

// ladder builds a value from the digits of a number, the most significant one first. A digit begins at a bit that is 1 and has up to width bits; lift moves a value up by a number of bits, and add adds a digit to it.
func ladder[T any](n nat.Nat, width int, start T, lift func(T, int) T, add func(T, nat.Nat) T) T {
	result, done := start, n.BitLen()
	for top := range n.Ones() {
		if top >= done {
			continue
		}
		low := max(top-width+1, 0)
		result = add(lift(result, done-low), digit(n, low, top+1))
		done = low
	}
	return lift(result, done)
}

// digit returns the number that the bits of n from low on consist of, up to a bit high.
func digit(n nat.Nat, low, high int) nat.Nat {
	above := certain(n.ShiftRight(high))
	return certain(certain(n.ShiftRight(low)).Sub(certain(above.ShiftLeft(high - low))))
}

// certain returns a number where an error is not possible.
func certain(n nat.Nat, _ api.Errno) nat.Nat { return n }
