package replay_test

import (
	"bytes"
	"crypto/sha256"
	"math/rand"
	"strconv"
	"testing"

	"watchword/api"
	"watchword/replay"
)

func digest(b byte) replay.Digest { return replay.Of([]byte{b}) }

func start(t *testing.T, skew, limit int) *replay.Cache {
	t.Helper()
	c, e := replay.New(skew, limit)
	if e != api.OK {
		t.Fatal(e)
	}
	return c
}

func TestNew(t *testing.T) {
	if replay.Of([]byte("abc")) != replay.Digest(sha256.Sum256([]byte("abc"))) {
		t.Error("digest")
	}
	for i, v := range []struct {
		skew, limit int
		ok          bool
	}{{0, 1, true}, {1 << 20, 1 << 16, true}, {-1, 1, false}, {1<<20 + 1, 1, false}, {0, 0, false}, {0, 1<<16 + 1, false}} {
		if c, e := replay.New(v.skew, v.limit); (e == api.OK) != v.ok || !v.ok && (c != nil || e != api.ErrArg) {
			t.Error(i, e)
		}
	}
	for _, c := range []*replay.Cache{nil, {}} {
		if c.Present(digest(1), -1, -1) != api.ErrNil || c.Use(-1) != api.ErrNil || c.Fence(-1) != api.ErrNil || c.Len() != 0 || c.Clock() != 0 || len(c.Image()) != 0 || c.Copy() != nil {
			t.Error("nil")
		}
		for range c.Entries() {
			t.Error("entries")
		}
	}
}

func TestPresent(t *testing.T) {
	c := start(t, 10, 2)
	for i, v := range []struct {
		d          byte
		time, now  int
		want       api.Errno
		len, clock int
	}{
		{1, 100, 105, api.OK, 1, 105}, {1, 100, 110, api.ErrBusy, 1, 110}, {1, 101, 110, api.OK, 2, 110}, {2, 121, 110, api.ErrRange, 2, 110}, {2, 99, 110, api.ErrRange, 2, 110}, {2, 110, 100, api.ErrFull, 2, 110}, {1, 101, 100, api.ErrBusy, 2, 110}, {2, 110, 111, api.OK, 2, 111}, {3, -1, 500, api.ErrArg, 2, 111}, {3, 1<<40 + 1, 500, api.ErrArg, 2, 111}, {3, 111, -1, api.ErrArg, 2, 111}, {3, 111, 1<<40 + 1, api.ErrArg, 2, 111},
	} {
		if e := c.Present(digest(v.d), v.time, v.now); e != v.want || c.Len() != v.len || c.Clock() != v.clock {
			t.Error(i, e, c.Len(), c.Clock())
		}
	}
	d := c.Copy()
	if c.Fence(111) != api.OK || c.Present(digest(3), 121, 112) != api.ErrState || c.Present(digest(3), 122, 112) != api.OK || len(c.Image()) != 120 {
		t.Error("fence", len(c.Image()))
	}
	if d.Present(digest(3), 121, 112) != api.OK {
		t.Error("copy")
	}
	if c.Fence(-1) != api.ErrArg || c.Use(-1) != api.ErrArg || c.Use(1<<40+1) != api.ErrArg || c.Use(50) != api.OK || c.Clock() != 112 || c.Use(132) != api.OK || c.Len() != 1 || c.Use(133) != api.OK || c.Len() != 0 {
		t.Error("use", c.Len())
	}
	// A refused authenticator uses the cache all the same.
	e := start(t, 0, 1)
	if e.Present(digest(1), 5, 6) != api.ErrRange || e.Clock() != 6 || e.Fence(6) != api.OK || e.Present(digest(1), 6, 6) != api.ErrState || e.Present(digest(1), 7, 7) != api.OK {
		t.Error("range")
	}
}

func TestEntries(t *testing.T) {
	c := start(t, 10, 9)
	c.Present(digest(1), 101, 100)
	c.Present(digest(2), 100, 100)
	c.Present(digest(3), 101, 100)
	entries := c.Entries()
	c.Use(1000)
	for range 2 {
		last, n := "", 0
		for time, d := range entries {
			key := strconv.Itoa(time) + string(d[:])
			if key <= last {
				t.Error("order")
			}
			last = key
			n++
		}
		if n != 3 {
			t.Error(n)
		}
	}
	for range entries {
		break
	}
}

// image returns an image with numbers and entries.
func image(skew, limit, clock, fence, n int, entries ...[]byte) []byte {
	var b []byte
	for _, v := range []int{skew, limit, clock, fence, n} {
		b = append(b, fixed(v)...)
	}
	return append(b, bytes.Join(entries, nil)...)
}

func fixed(v int) []byte {
	b := make([]byte, 8)
	for i := range b {
		b[i] = byte(v >> (56 - 8*i))
	}
	return b
}

func entry(time int, d byte) []byte {
	return append(fixed(time), bytes.Repeat([]byte{d}, 32)...)
}

func TestImage(t *testing.T) {
	c := start(t, 10, 3)
	c.Present(replay.Digest(bytes.Repeat([]byte{7}, 32)), 105, 105)
	c.Present(replay.Digest(bytes.Repeat([]byte{5}, 32)), 105, 105)
	if !bytes.Equal(c.Image(), image(10, 3, 105, 0, 2, entry(105, 5), entry(105, 7))) {
		t.Error(c.Image())
	}
	c.Fence(105)
	if !bytes.Equal(c.Image(), image(10, 3, 105, 116, 2, entry(105, 5), entry(105, 7))) {
		t.Error(c.Image())
	}
	for i, v := range []struct {
		b    []byte
		want api.Errno
	}{
		{c.Image(), api.OK}, {image(10, 3, 105, 0, 2, entry(95, 5), entry(115, 7)), api.OK}, {image(0, 1, 0, 0, 0), api.OK}, {image(1<<20, 1<<16, 1<<40, 1<<40+1<<20+1, 0), api.OK}, {nil, api.ErrShort}, {image(10, 3, 105, 0, 0)[:39], api.ErrShort}, {image(10, 3, 105, 0, 1), api.ErrShort}, {image(10, 3, 105, 0, 2, entry(105, 5), entry(105, 7)[:39]), api.ErrShort}, {image(10, 3, 105, 0, -1), api.ErrShort}, {image(10, 3, 105, 0, 1<<62, entry(105, 5)), api.ErrShort}, {image(10, 3, 105, 0, 1, entry(105, 5), []byte{1}), api.ErrLong}, {image(-1, 3, 105, 0, 0, []byte{1}), api.ErrLong},
		{image(-1, 3, 105, 0, 0), api.ErrFormat}, {image(1<<20+1, 3, 105, 0, 0), api.ErrFormat}, {image(10, 0, 105, 0, 0), api.ErrFormat}, {image(10, 1<<16+1, 105, 0, 0), api.ErrFormat}, {image(10, 1, 105, 0, 2, entry(105, 5), entry(105, 7)), api.ErrFormat}, {image(10, 3, -1, 0, 0), api.ErrFormat}, {image(10, 3, 1<<40+1, 0, 0), api.ErrFormat}, {image(10, 3, 105, -1, 0), api.ErrFormat}, {image(10, 3, 105, 1<<40+1<<20+2, 0), api.ErrFormat}, {image(10, 3, 105, 0, 1, entry(94, 5)), api.ErrFormat}, {image(10, 3, 105, 0, 1, entry(116, 5)), api.ErrFormat}, {image(10, 3, 1<<40, 0, 1, entry(1<<40+1, 5)), api.ErrFormat}, {image(10, 3, 5, 0, 1, entry(-1, 5)), api.ErrFormat}, {image(10, 3, 105, 0, 2, entry(105, 7), entry(105, 5)), api.ErrFormat}, {image(10, 3, 105, 0, 2, entry(105, 5), entry(105, 5)), api.ErrFormat}, {image(10, 3, 105, 0, 2, entry(106, 5), entry(105, 7)), api.ErrFormat},
	} {
		l, e := replay.Load(v.b)
		if e != v.want || e != api.OK && l != nil || e == api.OK && !bytes.Equal(l.Image(), v.b) {
			t.Error(i, e, v.want)
		}
	}
	l, _ := replay.Load(c.Image())
	if l.Present(replay.Digest(bytes.Repeat([]byte{7}, 32)), 105, 105) != api.ErrState || l.Len() != 2 || l.Clock() != 105 {
		t.Error("load")
	}
}

func TestOnce(t *testing.T) {
	r := rand.New(rand.NewSource(1))
	c := start(t, 5, 20)
	accepted := map[[2]int]bool{}
	now := 50
	for range 3000 {
		now = max(now+r.Intn(4)-1, 0)
		switch r.Intn(12) {
		case 0:
			l, e := replay.Load(c.Image())
			if e != api.OK || !bytes.Equal(l.Image(), c.Image()) {
				t.Fatal(e)
			}
			c = l
		case 1:
			if r.Intn(10) == 0 {
				fresh := start(t, 5, 20)
				fresh.Fence(max(now, c.Clock()))
				c = fresh
			}
		default:
			d, time := r.Intn(5), max(now+r.Intn(13)-6, 0)
			if c.Present(digest(byte(d)), time, now) == api.OK {
				if accepted[[2]int{d, time}] {
					t.Fatal("accepted twice")
				}
				accepted[[2]int{d, time}] = true
			}
		}
		for time := range c.Entries() {
			if time < c.Clock()-5 || time > c.Clock()+5 {
				t.Fatal(time)
			}
		}
	}
}
