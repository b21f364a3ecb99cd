package network_test

import (
	"bytes"
	"math/rand"
	"strings"
	"testing"

	"watchword/api"
	"watchword/network"
)

func packet(from, to string, b ...byte) api.Packet { return api.Packet{From: from, To: to, Bytes: b} }

func equal(a, b api.Packet) bool {
	return a.From == b.From && a.To == b.To && bytes.Equal(a.Bytes, b.Bytes)
}

func TestExample(t *testing.T) {
	var n network.Network
	p := packet("a", "b", 1, 2)
	a, e1 := n.Send(p)
	p.Bytes[0] = 9
	b, e2 := n.Duplicate(0)
	e3 := n.Alter(1, 1, 0xff)
	g, _ := n.Genuine(0)
	h, _ := n.Genuine(1)
	c, e4 := n.Replay(0)
	if a != 0 || b != 1 || c != 2 || e1+e2+e3+e4 != api.OK || !g || h {
		t.Error(a, b, c, g, h)
	}
	q, e5 := n.Deliver(1)
	_, e6 := n.Deliver(1)
	if e5 != api.OK || e6 != api.ErrNone || !equal(q, packet("a", "b", 1, 0xfd)) || n.Redirect(2, "c") != api.OK {
		t.Error(q, e5, e6)
	}
	s, e := n.Source(2)
	g, f := n.Genuine(2)
	if s != 0 || g || e != api.OK || f != api.OK || n.Block("a", "b") != api.OK || n.Block("a", "b") != api.OK {
		t.Error(s, g)
	}
	if _, e := n.Deliver(0); e != api.ErrState || n.Alter(0, 2, 1) != api.ErrRange || n.Alter(0, -1, 1) != api.ErrRange || n.Alter(0, 0, 0) != api.ErrArg || n.Alter(99, 0, 0) != api.ErrArg {
		t.Error(e)
	}
	want := []api.NetEvent{{Kind: 1, ID: 0, From: -1}, {Kind: 4, ID: 1, From: 0}, {Kind: 5, ID: 1, From: -1}, {Kind: 7, ID: 2, From: 0}, {Kind: 2, ID: 1, From: -1}, {Kind: 6, ID: 2, From: -1}}
	events := n.Events()
	for range 2 {
		count := 0
		for i, x := range events {
			if i != count || x != want[i] {
				t.Error(i, x)
			}
			count++
		}
		if count != 6 {
			t.Error(count)
		}
	}
	if n.Unblock("a", "b") != api.OK || n.Unblock("a", "b") != api.OK {
		t.Error("unblock")
	}
	if q, e := n.Deliver(0); e != api.OK || !equal(q, packet("a", "b", 1, 2)) {
		t.Error(q, e)
	}
}

func TestErrors(t *testing.T) {
	var n network.Network
	long := strings.Repeat("h", 33)
	for i, p := range []api.Packet{{}, packet("", "b"), packet("a", ""), packet(long, "b"), packet("a", long), {From: "a", To: "b", Bytes: make([]byte, 65537)}} {
		a, e := n.Send(p)
		b, f := n.Inject(p)
		if e != api.ErrArg || f != api.ErrArg || a+b != 0 {
			t.Error(i, e, f)
		}
	}
	for _, x := range [][2]string{{"", "b"}, {"a", ""}, {long, "b"}, {"a", long}} {
		if n.Block(x[0], x[1]) != api.ErrArg || n.Unblock(x[0], x[1]) != api.ErrArg {
			t.Error(x)
		}
	}
	_, e1 := n.Deliver(0)
	_, e2 := n.Duplicate(0)
	_, e3 := n.Replay(0)
	_, e4 := n.Replay(-1)
	_, e5 := n.Source(0)
	_, e6 := n.Genuine(0)
	for i, e := range []api.Errno{e1, e2, e3, e4, e5, e6, n.Drop(0), n.Alter(0, 0, 1), n.Redirect(0, "b")} {
		if e != api.ErrNone {
			t.Error(i, e)
		}
	}
	if n.Redirect(0, "") != api.ErrArg || n.Redirect(0, long) != api.ErrArg {
		t.Error("redirect")
	}
	id, e := n.Inject(api.Packet{From: "x", To: strings.Repeat("h", 32), Bytes: make([]byte, 65536)})
	s, _ := n.Source(id)
	g, f := n.Genuine(id)
	if id != 0 || e != api.OK || s != -1 || g || f != api.OK {
		t.Error(id, s, g, e)
	}
	for range n.History() {
		t.Error("history")
	}
	if n.Drop(0) != api.OK || n.Drop(0) != api.ErrNone {
		t.Error("drop")
	}
	for i := range network.MaxFlight {
		if id, e := n.Send(packet("a", "b", byte(i))); e != api.OK || id != i+1 {
			t.Fatal(i, e)
		}
	}
	_, e1 = n.Send(packet("a", "b"))
	_, e2 = n.Inject(packet("a", "b"))
	_, e3 = n.Duplicate(1)
	_, e4 = n.Replay(1)
	if e1 != api.ErrFull || e2 != api.ErrFull || e3 != api.ErrFull || e4 != api.ErrFull {
		t.Error(e1, e2, e3, e4)
	}
	n.Drop(1)
	for i := network.MaxFlight; i < network.MaxHistory; i++ {
		id, e := n.Send(packet("a", "b"))
		if e != api.OK {
			t.Fatal(i, e)
		}
		n.Drop(id)
	}
	if _, e := n.Send(packet("a", "b")); e != api.ErrFull {
		t.Error(e)
	}
	if _, e := n.Inject(packet("a", "b")); e != api.OK {
		t.Error(e)
	}
}

func TestNil(t *testing.T) {
	var n *network.Network
	a, e1 := n.Send(api.Packet{})
	_, e2 := n.Deliver(0)
	_, e3 := n.Duplicate(0)
	_, e4 := n.Replay(0)
	b, e5 := n.Inject(api.Packet{})
	if a+b != 0 {
		t.Error(a, b)
	}
	_, e6 := n.Source(0)
	_, e7 := n.Genuine(0)
	for i, e := range []api.Errno{e1, e2, e3, e4, e5, e6, e7, n.Drop(0), n.Alter(0, 0, 0), n.Redirect(0, ""), n.Block("", ""), n.Unblock("", "")} {
		if e != api.ErrNil {
			t.Error(i, e)
		}
	}
	for range n.Flight() {
		t.Error("flight")
	}
	for range n.History() {
		t.Error("history")
	}
	for range n.Events() {
		t.Error("events")
	}
	if n.Copy() != nil {
		t.Error("copy")
	}
}

func TestIterators(t *testing.T) {
	var n network.Network
	for i := range 4 {
		n.Send(packet("a", "b", byte(i)))
	}
	n.Drop(1)
	flight, history := n.Flight(), n.History()
	c := n.Copy()
	n.Alter(2, 0, 0x40)
	n.Drop(0)
	n.Send(packet("c", "d"))
	for range 2 {
		s := ""
		for id, p := range flight {
			s += string(rune('0'+id)) + string(rune('0'+p.Bytes[0])) + " "
			p.Bytes[0] = 9
		}
		for i, p := range history {
			s += string(rune('0'+i)) + string(rune('0'+p.Bytes[0])) + " "
			p.Bytes[0] = 9
		}
		if s != "00 22 33 00 11 22 33 " {
			t.Error(s)
		}
	}
	for range flight {
		break
	}
	for range history {
		break
	}
	for range n.Events() {
		break
	}
	id, _ := c.Send(packet("x", "y"))
	p, e := c.Deliver(2)
	if id != 4 || e != api.OK || p.Bytes[0] != 2 {
		t.Error(id, p, e)
	}
	n.Block("a", "b")
	if _, e := c.Deliver(3); e != api.OK {
		t.Error(e)
	}
	d := n.Copy()
	d.Unblock("a", "b")
	if _, e := n.Deliver(3); e != api.ErrState {
		t.Error(e)
	}
}

func TestCounts(t *testing.T) {
	r := rand.New(rand.NewSource(1))
	var n network.Network
	for range 2000 {
		id := r.Intn(400)
		switch r.Intn(5) {
		case 0:
			n.Send(packet("a", "b", byte(id)))
		case 1:
			n.Duplicate(id)
		case 2:
			n.Replay(r.Intn(50))
		case 3:
			n.Drop(id)
		case 4:
			genuine, _ := n.Genuine(id)
			if p, e := n.Deliver(id); e == api.OK {
				found := false
				for _, q := range n.History() {
					found = found || equal(p, q)
				}
				if !genuine || !found {
					t.Fatal("not genuine")
				}
			}
		}
		in, out := 0, 0
		for _, x := range n.Events() {
			switch x.Kind {
			case api.NetDeliver, api.NetDrop:
				out++
			default:
				in++
			}
		}
		flying := 0
		for id := range n.Flight() {
			flying++
			if ok, _ := n.Genuine(id); !ok {
				t.Fatal("not genuine")
			}
		}
		if in != out+flying {
			t.Fatal(in, out, flying)
		}
	}
}
