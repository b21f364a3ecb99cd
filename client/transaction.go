package client

import (
	"watchword/api"
	"watchword/delegate"
	"watchword/flags"
	"watchword/message"
	"watchword/name"
	"watchword/pake"
	"watchword/profile"
	"watchword/shape"
)

// phase says what a transaction waits for.
type phase int

// The phases.
const (
	phaseInitial phase = iota
	phaseExchange
	phaseGrant
)

// transaction is how a goal is reached. Its values are never changed but only replaced.
type transaction struct {
	api.Goal
	kind     goalKind
	phase    phase
	request  api.Request    // the last one, without its PreAuth
	realm    string         // that was asked
	used     api.Credential // of a grant request
	method   int            // the kind of the sent pre-authentication, or 0
	key      api.Key        // the password key
	exchange *pake.Exchange
	question api.PreAuth
	dh       []byte
	hops     int
}

// failure is the error with which a transaction leaves by a panic.
type failure api.Errno

// require panics with an error unless a condition is met.
func require(ok bool, e api.Errno) {
	if !ok {
		panic(failure(e))
	}
}

// need returns a value, unless there is an error.
func need[T any](v T, e api.Errno) T {
	require(e == api.OK, e)
	return v
}

// work is a copy of a client that performs an operation at a time.
type work struct {
	*Client
	now, micro int
}

// perform performs an operation; if it fails, the client is unchanged.
func (c *Client) perform(now, micro int, operation func(*work) api.Step) (step api.Step, e api.Errno) {
	defer func() {
		if f, ok := recover().(failure); ok {
			step, e = api.Step{}, api.Errno(f)
		}
	}()
	w := &work{c.Copy(), now, micro}
	step = operation(w)
	*c = *w.Client
	return step, api.OK
}

// home returns the home of the client and its home service.
func (w *work) home() (string, api.Principal) {
	realm := w.config.Client.Realm
	service, _ := name.TicketGranting(realm, realm)
	return realm, service
}

// done ends the transaction with a credential.
func (w *work) done(x api.Credential) api.Step {
	w.transaction = nil
	return api.Step{Kind: api.StepDone, Credential: x}
}

// failed ends the transaction with a code.
func (w *work) failed(code int) api.Step {
	w.transaction = nil
	return api.Step{Kind: api.StepFailed, Code: code}
}

// start starts a goal.
func (w *work) start(g api.Goal) api.Step {
	kind := w.kind(g)
	client := w.config.Client
	if kind == plain && g.Options == 0 {
		if x, e := w.Client.cache.Find(client, g.Service, w.now, w.config.Skew, 0, 0); e == api.OK {
			return w.done(x)
		}
	}
	w.transaction = &transaction{Goal: copyGoal(g), kind: kind}
	if kind == renewing {
		x, e := w.Client.cache.Get(client, g.Service)
		require(e == api.OK, api.ErrNone)
		return w.grant(x, g.Service.Realm)
	}
	home, _ := w.home()
	realms := []string{home}
	if kind == plain {
		realms = []string{g.Service.Realm, home}
	}
	for _, realm := range realms {
		if x, e := w.Client.cache.Granting(client, realm, w.now, w.config.Skew); e == api.OK {
			return w.grant(x, realm)
		}
	}
	return w.initial()
}

// copyGoal returns an equal goal.
func copyGoal(g api.Goal) api.Goal {
	c := g
	c.Service, c.User = name.Copy(g.Service), name.Copy(g.User)
	c.Evidence = api.Ticket{Service: name.Copy(g.Evidence.Service), Sealed: shape.CopySealed(g.Evidence.Sealed)}
	return c
}

// wanted sets the times of a request.
func (w *work) wanted(r *api.Request) {
	r.Till = min(w.now+w.config.Life, api.MaxTime)
	if w.config.Renew != 0 && flags.Has(r.Options, api.FlagRenewable) {
		r.Renew = min(w.now+w.config.Renew, api.MaxTime)
	}
}

// nonce returns the next nonce.
func (w *work) nonce() int { return need(w.random.Number(api.MaxSeq)) }

// send returns the step that sends the last request with pre-authentication data.
func (w *work) send(l ...api.PreAuth) api.Step {
	t := w.transaction
	r := t.request
	r.PreAuth = l
	b := need(message.EncodeRequest(r))
	return api.Step{Kind: api.StepSend, Realm: t.realm, Bytes: b}
}

// initial sends an initial request.
func (w *work) initial() api.Step {
	realm, service := w.home()
	r := api.Request{Kind: api.RequestInitial, Options: w.config.Options, Client: w.config.Client, Service: service, Profiles: w.config.Profiles, Addresses: w.config.Addresses}
	w.wanted(&r)
	r.Nonce = w.nonce()
	t := w.transaction
	t.phase, t.request, t.realm = phaseInitial, r, realm
	return w.send()
}

// grant sends a grant request with a credential to a realm.
func (w *work) grant(x api.Credential, realm string) api.Step {
	t := w.transaction
	r := api.Request{Kind: api.RequestGrant, Service: t.Service, Options: t.Options | w.config.Options&x.Flags, Profiles: w.config.Profiles}
	switch t.kind {
	case renewing:
		r.Options = api.OptionRenew
	case constrained:
		r.Tickets = []api.Ticket{t.Evidence}
	}
	w.wanted(&r)
	r.Nonce = w.nonce()
	body := need(message.Body(r))
	sum := need(profile.Sum(x.Session, api.UsageRequestSum, body))
	a := api.Authenticator{Client: x.Client, Sum: sum, Time: w.now, Micro: w.micro}
	l := []api.PreAuth{{Kind: api.PreAuthTicket, Bytes: serviceRequest(x, api.UsageRequestAuth, a, false, w.random)}}
	if t.kind == forUser {
		l = append(l, need(delegate.ForUser(t.User, x.Session)))
	}
	t.phase, t.request, t.realm, t.used = phaseGrant, r, realm, x
	return w.send(l...)
}

// receive receives bytes.
func (w *work) receive(b []byte) api.Step {
	kind, e := message.Type(b)
	require(e == api.OK, api.ErrFormat)
	switch p := w.transaction.phase; {
	case kind == 30:
		return w.receiveFailure(need(message.DecodeFailure(b)))
	case kind == int(api.RequestInitial)+1 && p == phaseInitial:
		return w.receiveInitial(need(message.DecodeReply(b)))
	case kind == int(api.RequestGrant)+1 && p == phaseGrant:
		return w.receiveGrant(need(message.DecodeReply(b)))
	}
	panic(failure(api.ErrFormat))
}

// credential returns the credential of a reply.
func credential(r api.Reply, p api.ReplyPart) api.Credential {
	return api.Credential{Client: r.Client, Service: r.Ticket.Service, Session: p.Session, Flags: p.Flags, Times: p.Times, Addresses: p.Addresses, Ticket: r.Ticket}
}

// store stores a credential and returns it as it is in the cache.
func (w *work) store(x api.Credential) api.Credential {
	need(0, w.Client.cache.Store(x))
	return need(w.Client.cache.Get(x.Client, x.Service))
}

// receiveInitial receives an initial reply.
func (w *work) receiveInitial(r api.Reply) api.Step {
	t := w.transaction
	require(name.Equal(r.Client, w.config.Client), api.ErrReply)
	p := need(message.OpenPart(api.RequestInitial, w.replyKey(r), r.Sealed))
	home, service := w.home()
	require(all(p.Nonce == t.request.Nonce, name.Equal(p.Service, service), name.Equal(r.Ticket.Service, service)), api.ErrReply)
	x := w.store(credential(r, p))
	if t.kind == plain && name.Equal(t.Service, service) {
		return w.done(x)
	}
	return w.grant(x, home)
}

// receiveGrant receives a grant reply.
func (w *work) receiveGrant(r api.Reply) api.Step {
	t := w.transaction
	client := w.config.Client
	if !shape.NoName(t.User) {
		client = t.User
	}
	require(name.Equal(r.Client, client), api.ErrReply)
	p := need(message.OpenPart(api.RequestGrant, t.used.Session, r.Sealed))
	require(all(p.Nonce == t.request.Nonce, name.Equal(p.Service, r.Ticket.Service)), api.ErrReply)
	to, granting := name.Target(p.Service)
	if name.Equal(p.Service, t.Service) || !granting && flags.Has(t.Options, api.OptionCanonical) {
		return w.done(w.store(credential(r, p)))
	}
	require(all(t.kind == plain, granting, p.Service.Realm == t.realm, to != t.realm), api.ErrReply)
	x := w.store(credential(r, p))
	if t.hops == MaxHops {
		return w.failed(api.CodePath)
	}
	t.hops++
	return w.grant(x, to)
}
