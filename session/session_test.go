package session_test

import (
	"bytes"
	"math/rand"
	"slices"
	"testing"

	"watchword/api"
	"watchword/apmessage"
	"watchword/profile"
	"watchword/session"
)

func key(b byte) api.Key { return api.Key{Profile: 1, Bytes: bytes.Repeat([]byte{b}, 16)} }

func confounder() []byte { return make([]byte, 16) }

func stream(t *testing.T, side, window, send, receive int) *session.Stream {
	t.Helper()
	s, e := session.New(api.StreamConfig{Side: side, Key: key(1), Skew: 5, Window: window, Send: send, Receive: receive})
	if e != api.OK {
		t.Fatal(e)
	}
	return s
}

// message returns a safe message of the client with a sequence number.
func message(seq int) []byte {
	b, e := apmessage.SealSafe(key(1), api.SessionMessage{Data: []byte{byte(seq)}, Time: 100, Seq: seq})
	if e != api.OK {
		panic(e)
	}
	return b
}

func TestNew(t *testing.T) {
	good := api.StreamConfig{Key: key(1), Window: 64, Send: 1<<32 - 1, Receive: 1<<32 - 1, Skew: 86400, Side: 1}
	if s, e := session.New(good); e != api.OK || s.Config().Window != 64 || s.Config().Send != 1<<32-1 {
		t.Error(e)
	}
	if s, e := session.New(api.StreamConfig{Key: key(1)}); e != api.OK || s.Config().Window != 0 {
		t.Error(e)
	}
	for i, change := range []func(*api.StreamConfig){func(c *api.StreamConfig) { c.Side = 2 }, func(c *api.StreamConfig) { c.Side = -1 }, func(c *api.StreamConfig) { c.Key = api.Key{} }, func(c *api.StreamConfig) { c.Skew = -1 }, func(c *api.StreamConfig) { c.Skew = 86401 }, func(c *api.StreamConfig) { c.Window = -1 }, func(c *api.StreamConfig) { c.Window = 65 }, func(c *api.StreamConfig) { c.Send = -1 }, func(c *api.StreamConfig) { c.Send = 1 << 32 }, func(c *api.StreamConfig) { c.Receive = -1 }, func(c *api.StreamConfig) { c.Receive = 1 << 32 }} {
		c := good
		change(&c)
		if s, e := session.New(c); s != nil || e != api.ErrArg {
			t.Error(i, e)
		}
	}
	for _, s := range []*session.Stream{nil, {}} {
		a, e1 := s.Safe(nil, -1, 0)
		b, e2 := s.Private(nil, -1, 0, nil)
		_, _, e3 := s.Receive(nil, -1)
		if e1 != api.ErrNil || e2 != api.ErrNil || e3 != api.ErrNil || s.Rekey(api.Key{}) != api.ErrNil || len(a)+len(b) != 0 || s.Config().Window != 0 || s.Copy() != nil {
			t.Error(e1, e2, e3)
		}
		for range s.Missing() {
			t.Error("missing")
		}
	}
}

func TestSend(t *testing.T) {
	a := stream(t, 1, 2, 1<<32-1, 0)
	x, e := a.Safe([]byte{5}, 100, 7)
	y, f := a.Private([]byte{6}, 101, 8, confounder())
	m, g := apmessage.OpenSafe(key(1), x)
	n, h := apmessage.OpenPrivate(key(1), y)
	if e != api.OK || f != api.OK || g != api.OK || h != api.OK || m.Seq != 1<<32-1 || n.Seq != 0 || m.From != 1 || n.From != 1 || m.Time != 100 || m.Micro != 7 || n.Data[0] != 6 || a.Config().Send != 1 {
		t.Error(m, n, e, f, g, h)
	}
	_, e1 := a.Safe(make([]byte, 32769), 1, 1)
	_, e2 := a.Safe(nil, -1, 1)
	_, e3 := a.Private(nil, 1, 1000000, confounder())
	_, e4 := a.Private(nil, 1, 1, nil)
	if e1 != api.ErrArg || e2 != api.ErrArg || e3 != api.ErrArg || e4 != api.ErrArg || a.Config().Send != 1 {
		t.Error(e1, e2, e3, e4)
	}
}

func TestReceive(t *testing.T) {
	a, b := stream(t, 0, 2, 7, 0), stream(t, 1, 2, 0, 7)
	var l [][]byte
	for i := range 5 {
		m, _ := a.Safe([]byte{byte(i + 1)}, 100, 0)
		l = append(l, m)
	}
	for i, v := range []struct {
		m    []byte
		now  int
		data byte
		want api.Errno
	}{{l[0], 105, 1, api.OK}, {l[0], 105, 0, api.ErrStreamOld}, {l[1], 106, 0, api.ErrStreamTime}, {l[1], 94, 0, api.ErrStreamTime}, {l[2], 100, 3, api.OK}, {l[1], 100, 2, api.OK}, {l[1], 100, 0, api.ErrStreamOld}, {l[0], 100, 0, api.ErrStreamOld}, {message(12), 100, 0, api.ErrStreamGap}, {message(11), 100, 11, api.OK}, {message(9), 100, 0, api.ErrStreamOld}, {message(10), 100, 10, api.OK}, {nil, 100, 0, api.ErrFormat}, {[]byte{0x6e, 0}, 100, 0, api.ErrFormat}, {l[4][1:], 100, 0, api.ErrFormat}, {l[4], -1, 0, api.ErrArg}, {l[4], 1<<40 + 1, 0, api.ErrArg}} {
		m, private, e := b.Receive(v.m, v.now)
		if e != v.want || private || e == api.OK && m.Data[0] != v.data || e != api.OK && (len(m.Data) != 0 || m.Time != 0) {
			t.Error(i, m, e)
		}
	}
	half := stream(t, 1, 0, 0, 0)
	for i, v := range []struct {
		seq  int
		want api.Errno
	}{{1<<31 - 1, api.ErrStreamGap}, {1 << 31, api.ErrStreamOld}, {1<<32 - 1, api.ErrStreamOld}, {1, api.ErrStreamGap}, {0, api.OK}} {
		if _, _, e := half.Receive(message(v.seq), 100); e != v.want {
			t.Error(i, e)
		}
	}
	if _, _, e := a.Receive(l[3], 200); e != api.ErrStreamSide {
		t.Error(e)
	}
	if b.Rekey(key(2)) != api.OK || b.Rekey(api.Key{}) != api.ErrArg || !profile.Equal(b.Config().Key, key(2)) || b.Config().Receive != 12 {
		t.Error(b.Config())
	}
	if _, _, e := b.Receive(message(12), 100); e != api.ErrCheck {
		t.Error(e)
	}
	p := stream(t, 0, 0, 3, 0)
	q := stream(t, 1, 0, 0, 3)
	x, _ := p.Private([]byte{9}, 100, 0, confounder())
	y, _ := p.Private([]byte{8}, 100, 0, confounder())
	if _, _, e := q.Receive(y, 100); e != api.ErrStreamGap {
		t.Error(e)
	}
	if m, private, e := q.Receive(x, 100); e != api.OK || !private || m.Data[0] != 9 {
		t.Error(m, private, e)
	}
	if _, _, e := q.Receive(x, 100); e != api.ErrStreamOld {
		t.Error(e)
	}
}

func TestMissing(t *testing.T) {
	s := stream(t, 1, 5, 0, 1<<32-2)
	for _, seq := range []int{1<<32 - 1, 2} {
		if _, _, e := s.Receive(message(seq), 100); e != api.OK {
			t.Fatal(seq, e)
		}
	}
	missing := s.Missing()
	c := s.Copy()
	if _, _, e := s.Receive(message(0), 100); e != api.OK {
		t.Error(e)
	}
	for range 2 {
		if got := slices.Collect(missing); !slices.Equal(got, []int{1<<32 - 2, 0, 1}) {
			t.Error(got)
		}
	}
	for n := range missing {
		if n != 1<<32-2 {
			t.Error(n)
		}
		break
	}
	if got := slices.Collect(s.Missing()); !slices.Equal(got, []int{1<<32 - 2, 1}) || s.Config().Receive != 3 {
		t.Error(got)
	}
	if got := slices.Collect(c.Missing()); len(got) != 3 {
		t.Error(got)
	}
	if got := slices.Collect(stream(t, 1, 64, 0, 9).Missing()); len(got) != 0 {
		t.Error(got)
	}
}

func TestWindows(t *testing.T) {
	r := rand.New(rand.NewSource(1))
	for _, window := range []int{0, 1, 2, 7, 63, 64} {
		s := stream(t, 1, window, 0, 1<<32-20)
		next, received := 1<<32-20, map[int]bool{}
		for range 400 {
			offset := r.Intn(2*window+6) - window - 3
			position := next + offset
			_, _, e := s.Receive(message(position%api.MaxSeq), 100)
			want := api.OK
			switch {
			case offset >= 0 && offset < max(1, window):
				received[position] = true
				for i := next; i < position; i++ {
					received[i] = false
				}
				next = position + 1
			case offset >= max(1, window):
				want = api.ErrStreamGap
			case -offset > window:
				want = api.ErrStreamOld
			default:
				if got, ok := received[position]; !ok || got {
					want = api.ErrStreamOld
				} else {
					received[position] = true
				}
			}
			if e != want {
				t.Fatal(window, offset, e, want)
			}
			if s.Config().Receive != next%api.MaxSeq {
				t.Fatal(window, next)
			}
		}
	}
}
