package world

import (
	"watchword/api"
	"watchword/client"
	"watchword/drift"
	"watchword/failover"
	"watchword/shape"
)

// failure is the error with which an act leaves by a panic.
type failure api.Errno

// require panics with an error unless a condition is met.
func require(ok bool, e api.Errno) {
	if !ok {
		panic(failure(e))
	}
}

// need returns a value, unless there is an error.
func need[T any](v T, e api.Errno) T {
	require(e == api.OK, e)
	return v
}

// acts returns the acts, by their kinds.
func acts() map[api.ActKind]func(*World, api.Act) {
	return map[api.ActKind]func(*World, api.Act){
		api.ActAdvance:   (*World).advance,
		api.ActStart:     (*World).start,
		api.ActCancel:    (*World).cancel,
		api.ActCall:      (*World).call,
		api.ActDeliver:   (*World).deliver,
		api.ActDrop:      (*World).drop,
		api.ActDuplicate: (*World).duplicate,
		api.ActReplay:    (*World).replay,
		api.ActRedirect:  (*World).redirect,
		api.ActAlter:     (*World).alter,
		api.ActInject:    (*World).inject,
		api.ActElect:     (*World).elect,
		api.ActBeat:      (*World).beat,
		api.ActPass:      (*World).passLetter,
		api.ActLose:      (*World).loseLetter,
		api.ActOffer:     (*World).offer,
		api.ActRestart:   (*World).restart,
		api.ActKey:       (*World).addKey,
	}
}

// Do performs an act.
func (w *World) Do(x api.Act) (e api.Errno) {
	if !w.usable() {
		return api.ErrNil
	}
	act, ok := acts()[x.Kind]
	if !ok || !w.valid(x) {
		return api.ErrArg
	}
	defer func() {
		if f, ok := recover().(failure); ok {
			e = api.Errno(f)
		}
	}()
	c := w.Copy()
	act(c, x)
	*w = *c
	return api.OK
}

// valid reports whether the numbers of an act are valid.
func (w *World) valid(x api.Act) bool {
	index := func(n, count int) bool { return within(n, 0, count-1) }
	digit := index(x.Node, 10)
	switch x.Kind {
	case api.ActAdvance:
		return x.N >= 0
	case api.ActStart:
		return index(x.Who, len(w.clients)) && digit
	case api.ActCancel:
		return index(x.Who, len(w.clients))
	case api.ActCall:
		return index(x.Who, len(w.clients)) && index(x.N, len(w.services))
	case api.ActDeliver:
		return digit
	case api.ActElect, api.ActBeat, api.ActOffer:
		return index(x.Node, len(w.nodes(x.Who)))
	case api.ActPass, api.ActLose:
		return index(x.Who, len(w.realms))
	case api.ActRestart, api.ActKey:
		return index(x.Who, len(w.services))
	}
	return true
}

// show returns the time that a clock shows.
func (w *World) show(c *drift.Clock) int { return need(c.Show(w.time)) }

// send sends a packet.
func (w *World) send(from, to string, b []byte) {
	need(w.network.Send(api.Packet{From: from, To: to, Bytes: b}))
}

// step sends what a client wants to send to a node.
func (w *World) step(c *clientHost, s api.Step, node int) {
	if s.Kind == api.StepSend {
		w.send(c.host, hostOf(s.Realm, node), s.Bytes)
	}
}

// advance lets time pass.
func (w *World) advance(x api.Act) {
	require(x.N <= 2*MaxStart-w.time, api.ErrRange)
	w.time += x.N
}

// start lets a client start a goal.
func (w *World) start(x api.Act) {
	c := w.clients[x.Who]
	w.step(c, need(c.client.Start(x.Goal, w.show(c.clock), 0)), x.Node)
}

// cancel lets a client cancel its transaction.
func (w *World) cancel(x api.Act) { need(0, w.clients[x.Who].client.Cancel()) }

// call lets a client call a service.
func (w *World) call(x api.Act) {
	c, s := w.clients[x.Who], w.services[x.N]
	user := x.User
	if shape.NoName(user) {
		user = c.client.Config().Client
	}
	b, established := called(c.client, user, s.service.Config().Service, x, w.show(c.clock))
	if !x.Mutual {
		c.session = established
	}
	w.send(c.host, s.host, b)
}

// called returns what a client sends to a service and has established.
func called(c *client.Client, user, service api.Principal, x api.Act, now int) ([]byte, api.Established) {
	b, established, e := c.Call(user, service, x.Mutual, x.Subkey, now, 0)
	require(e == api.OK, e)
	return b, established
}

// post puts messages between nodes on their way.
func (r *realm) post(l []failover.Message) {
	require(len(r.letters)+len(l) <= MaxLetters, api.ErrFull)
	for _, m := range l {
		r.letters[r.next] = m
		r.next++
	}
}

// drop lets a packet be lost.
func (w *World) drop(x api.Act) { need(0, w.network.Drop(x.N)) }

// duplicate doubles a packet.
func (w *World) duplicate(x api.Act) { need(w.network.Duplicate(x.N)) }

// replay sends a recorded packet again.
func (w *World) replay(x api.Act) { need(w.network.Replay(x.N)) }

// redirect sends a packet to another host.
func (w *World) redirect(x api.Act) { need(0, w.network.Redirect(x.N, x.Host)) }

// alter changes a byte of a packet.
func (w *World) alter(x api.Act) { need(0, w.network.Alter(x.N, x.Node, x.Mask)) }

// inject sends a forged packet.
func (w *World) inject(x api.Act) { need(w.network.Inject(x.Packet)) }

// elect lets a node hold an election.
func (w *World) elect(x api.Act) {
	r := w.realms[x.Who]
	r.post(need(r.nodes[x.Node].Elect()))
}

// beat lets a node send its updates.
func (w *World) beat(x api.Act) {
	r := w.realms[x.Who]
	r.post(need(r.nodes[x.Node].Beat()))
}

// offer gives an update to a node.
func (w *World) offer(x api.Act) {
	r := w.realms[x.Who]
	u := x.Update
	u.Index, u.Term = 0, 0
	_, l, e := r.nodes[x.Node].Offer(u)
	require(e == api.OK, e)
	r.post(l)
}

// take takes a message from those on their way.
func (r *realm) take(n int) failover.Message {
	m, ok := r.letters[n]
	require(ok, api.ErrNone)
	delete(r.letters, n)
	return m
}

// passLetter lets a message arrive.
func (w *World) passLetter(x api.Act) {
	r := w.realms[x.Who]
	m := r.take(x.N)
	l, _ := r.nodes[m.To].Receive(m)
	r.post(l)
}

// loseLetter lets a message be lost.
func (w *World) loseLetter(x api.Act) { w.realms[x.Who].take(x.N) }

// restart restarts a service.
func (w *World) restart(x api.Act) {
	s := w.services[x.Who]
	var image []byte
	if x.Keep {
		image = s.service.Image()
	}
	need(0, s.service.Restart(image, w.show(s.clock)))
}

// addKey adds a key to the key table of a service.
func (w *World) addKey(x api.Act) {
	s := w.services[x.Who].service
	t := s.Table()
	need(0, t.Add(x.Key))
	need(0, s.SetTable(t))
}
