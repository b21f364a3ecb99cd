package world

import (
	"slices"

	"watchword/api"
	"watchword/apmessage"
	"watchword/database"
	"watchword/delegate"
	"watchword/entry"
	"watchword/message"
	"watchword/name"
	"watchword/ticket"
)

// receiver is what receives a packet.
type receiver interface {
	// receive receives a packet; a client sends to the node with a number.
	receive(w *World, p api.Packet, node int)
}

// nodeHost is a node of a realm with its centre.
type nodeHost struct {
	realm *realm
	node  int
}

// found returns the index of the element of a list that a closure accepts, or -1.
func found[T any](l []T, accept func(T) bool) int { return slices.IndexFunc(l, accept) }

// receiverOf returns the receiver with a host.
func (w *World) receiverOf(host string) receiver {
	for _, r := range w.realms {
		for n := range r.nodes {
			if hostOf(r.name, n) == host {
				return nodeHost{r, n}
			}
		}
	}
	if i := found(w.clients, func(c *clientHost) bool { return c.host == host }); i >= 0 {
		return w.clients[i]
	}
	if i := found(w.services, func(s *serviceHost) bool { return s.host == host }); i >= 0 {
		return w.services[i]
	}
	return nil
}

// deliver delivers a packet.
func (w *World) deliver(x api.Act) {
	p := need(w.network.Deliver(x.N))
	switch r := w.receiverOf(p.To).(type) {
	case nodeHost:
		r.receive(w, p, 0)
	case *clientHost:
		r.receive(w, p, x.Node)
	case *serviceHost:
		r.receive(w, p, 0)
	}
}

// receive handles bytes with the centre of a node.
func (h nodeHost) receive(w *World, p api.Packet, _ int) {
	node, centre := h.realm.nodes[h.node], h.realm.centres[h.node]
	need(0, centre.SetDatabase(node.Database()))
	o := need(centre.Handle(p.Bytes, addressOf(p.From), w.time, 0))
	w.send(p.To, p.From, o.Reply)
	w.facts = append(w.facts, o.Fact)
	if o.Touched {
		_, l, e := node.Offer(api.Update{Time: w.time, Kind: api.UpdateTouch, Name: o.Name, Fails: o.Fails, LastFail: o.LastFail, LastSuccess: o.LastSuccess})
		if e == api.OK {
			h.realm.post(l)
		}
	}
	if o.Fact.Code == api.CodeOK {
		w.issued(p.Bytes, o.Reply, centre.Database())
	}
}

// receive receives the answer of a centre or of a service.
func (c *clientHost) receive(w *World, p api.Packet, node int) {
	now := w.show(c.clock)
	if c.client.Busy() {
		if s, e := c.client.Receive(p.Bytes, now, 0); e == api.OK {
			w.step(c, s, node)
			return
		}
	}
	if established, e := c.client.Reply(p.Bytes); e == api.OK {
		c.session = established
	}
}

// receive accepts a client.
func (s *serviceHost) receive(w *World, p api.Packet, _ int) {
	now := w.show(s.clock)
	a, reply, e := s.service.Accept(p.Bytes, addressOf(p.From), now)
	if e != api.OK {
		return
	}
	if len(reply) > 0 {
		w.send(s.host, p.From, reply)
	}
	w.auditor.Add(api.Event{
		Kind: api.EventAccept, Time: now, Client: a.Client, Service: s.service.Config().Service,
		Session: sessionOf(a.Session, a.Times), Authenticator: append(a.Authenticator, fixed(a.Time)...),
	})
}

// fixed returns a number in 8 bytes.
func fixed(v int) []byte {
	b := make([]byte, 8)
	for i := range b {
		b[i] = byte(v >> (56 - 8*i))
	}
	return b
}

// sessionOf returns what tells the session of a ticket from others.
func sessionOf(k api.Key, t api.Times) []byte {
	return slices.Concat(k.Bytes, fixed(t.Auth), fixed(t.Start), fixed(t.End))
}

// opened returns the part of a ticket that is opened with the key of the entry with a name.
func opened(d *database.Database, owner api.Principal, t api.Ticket) (api.TicketPart, bool) {
	e, code := d.Get(owner)
	if code != api.OK || !name.Equal(e.Name, owner) {
		return api.TicketPart{}, false
	}
	k, code := entry.Find(e, t.Sealed.Version, t.Sealed.Profile)
	if code != api.OK {
		return api.TicketPart{}, false
	}
	part, code := ticket.Open(k, t)
	return part, code == api.OK
}

// issued reports the ticket in the reply of a centre to a request.
func (w *World) issued(request, reply []byte, d *database.Database) {
	r, e := message.DecodeReply(reply)
	part, ok := opened(d, r.Ticket.Service, r.Ticket)
	if e != api.OK || !ok {
		return
	}
	w.auditor.Add(api.Event{
		Kind: api.EventIssue, Time: w.time, Client: part.Client, Service: r.Ticket.Service,
		Session: sessionOf(part.Session, part.Times), Times: part.Times, Transited: part.Transited,
	})
	q, e := message.DecodeRequest(request)
	if e != api.OK || delegate.Of(q) != delegate.KindConstrained {
		return
	}
	b, _ := message.PreAuth(q.PreAuth, api.PreAuthTicket)
	presented, e := apmessage.DecodeRequest(b)
	own, _ := name.TicketGranting(d.Realm(), d.Realm())
	by, ok := opened(d, own, presented.Ticket)
	if e != api.OK || !ok {
		return
	}
	w.auditor.Add(api.Event{Kind: api.EventDelegate, Time: w.time, Client: part.Client, Service: r.Ticket.Service, By: by.Client})
}
