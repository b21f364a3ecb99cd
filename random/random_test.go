package random_test

import (
	"bytes"
	"crypto/hmac"
	"crypto/sha256"
	"encoding/binary"
	"testing"

	"watchword/api"
	"watchword/random"
)

func hash(key []byte, parts ...[]byte) []byte {
	h := hmac.New(sha256.New, key)
	for _, p := range parts {
		h.Write(p)
	}
	return h.Sum(nil)
}

// model is a generator by the definition.
type model struct{ state []byte }

func (m *model) step() { m.state = hash(m.state, []byte{0}) }

func (m *model) block(i int) []byte {
	return hash(m.state, []byte{1}, binary.BigEndian.AppendUint32(nil, uint32(i)))
}

func (m *model) bytes(n int) []byte {
	if n == 0 {
		return nil
	}
	var b []byte
	for i := 0; len(b) < n; i++ {
		b = append(b, m.block(i)...)
	}
	m.step()
	return b[:n]
}

func (m *model) number(limit int) int {
	bound := (1 << 63) / uint64(limit) * uint64(limit)
	for i := 0; ; i++ {
		b := m.block(i / 4)
		v := binary.BigEndian.Uint64(b[8*(i%4):]) &^ (1 << 63)
		if v < bound {
			m.step()
			return int(v % uint64(limit))
		}
	}
}

func start(t *testing.T, seed string) (*random.Generator, *model) {
	t.Helper()
	g, e := random.New([]byte(seed))
	if e != api.OK {
		t.Fatal(e)
	}
	return g, &model{hash([]byte("watchword"), []byte(seed))}
}

func TestCalls(t *testing.T) {
	g, m := start(t, "seed")
	for _, n := range []int{1, 0, 31, 32, 33, 0, 64, 100, 65536} {
		b, e := g.Bytes(n)
		if !bytes.Equal(b, m.bytes(n)) || e != api.OK {
			t.Error(n, e)
		}
		// About a third of the values is rejected for this limit, so that several blocks are used.
		for _, limit := range []int{1, 2, 10, 1 << 32, 1<<62 - 1, 1 << 62, 1<<61 + 1, 3074457345618258603} {
			v, e := g.Number(limit)
			if w := m.number(limit); v != w || e != api.OK {
				t.Error(limit, v, w, e)
			}
		}
		for _, size := range []int{16, 32} {
			k, e := g.Key(n-5, size)
			if k.Profile != n-5 || k.Version != 0 || !bytes.Equal(k.Bytes, m.bytes(size)) || e != api.OK {
				t.Error(size, k, e)
			}
		}
		label := string(make([]byte, min(n, 1024)))
		f, e := g.Fork(label)
		fm := &model{hash(m.state, []byte{2}, []byte(label))}
		m.step()
		b, _ = f.Bytes(40)
		if e != api.OK || !bytes.Equal(b, fm.bytes(40)) {
			t.Error(n, e)
		}
	}
	for range 300 {
		v, _ := g.Number(3074457345618258603)
		if v != m.number(3074457345618258603) {
			t.Fatal(v)
		}
	}
}

func TestErrors(t *testing.T) {
	for _, seed := range [][]byte{nil, {}, make([]byte, 1025)} {
		if g, e := random.New(seed); g != nil || e != api.ErrArg {
			t.Error(len(seed), e)
		}
	}
	if _, e := random.New(make([]byte, 1024)); e != api.OK {
		t.Error(e)
	}
	g, m := start(t, "a")
	for _, n := range []int{-1, 65537, 1 << 62, -1 << 63} {
		if b, e := g.Bytes(n); len(b) != 0 || e != api.ErrArg {
			t.Error(n, e)
		}
	}
	for _, n := range []int{0, -1, 1<<62 + 1, 1<<63 - 1, -1 << 63} {
		if v, e := g.Number(n); v != 0 || e != api.ErrArg {
			t.Error(n, e)
		}
		for v := range g.Numbers(n) {
			t.Error(n, v)
		}
	}
	for _, n := range []int{0, 15, 17, 31, 33, -16} {
		if k, e := g.Key(1, n); k.Profile != 0 || len(k.Bytes) != 0 || e != api.ErrArg {
			t.Error(n, e)
		}
	}
	if f, e := g.Fork(string(make([]byte, 1025))); f != nil || e != api.ErrArg {
		t.Error(e)
	}
	if b, _ := g.Bytes(8); !bytes.Equal(b, m.bytes(8)) {
		t.Error("an error changed the state")
	}
}

func TestNil(t *testing.T) {
	for _, g := range []*random.Generator{nil, {}} {
		b, e1 := g.Bytes(0)
		c, e2 := g.Bytes(-1)
		v, e3 := g.Number(0)
		k, e4 := g.Key(1, 1)
		f, e5 := g.Fork("")
		for i, e := range []api.Errno{e1, e2, e3, e4, e5} {
			if e != api.ErrNil {
				t.Error(i, e)
			}
		}
		if len(b)+len(c)+v+k.Profile != 0 || f != nil || g.Copy() != nil {
			t.Error("values")
		}
		for v := range g.Numbers(5) {
			t.Error(v)
		}
	}
}

func TestNumbers(t *testing.T) {
	g, m := start(t, "numbers")
	numbers := g.Numbers(1000)
	c := g.Copy()
	if b, _ := g.Bytes(5); !bytes.Equal(b, m.bytes(5)) {
		t.Error("numbers changed the generator")
	}
	for range 2 {
		d := c.Copy()
		n := 0
		for v := range numbers {
			w, _ := d.Number(1000)
			if v != w {
				t.Error(n, v, w)
			}
			if n++; n == 20 {
				break
			}
		}
	}
	for v := range g.Numbers(1) {
		if v != 0 {
			t.Error(v)
		}
		break
	}
}

func TestCopyAndPrefix(t *testing.T) {
	g, _ := start(t, "a")
	c, d := g.Copy(), g.Copy()
	x, _ := g.Bytes(40)
	y, _ := c.Bytes(40)
	z, _ := d.Bytes(8)
	if !bytes.Equal(x, y) || !bytes.Equal(x[:8], z) {
		t.Error(x, y, z)
	}
	g.Bytes(1)
	x, _ = g.Bytes(4)
	y, _ = c.Bytes(4)
	if bytes.Equal(x, y) {
		t.Error("not independent")
	}
}
