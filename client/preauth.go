package client

import (
	"watchword/api"
	"watchword/centre"
	"watchword/entry"
	"watchword/message"
	"watchword/pake"
	"watchword/pkinit"
	"watchword/profile"
	"watchword/timestamp"
)

// receiveFailure receives an error message.
func (w *work) receiveFailure(f api.Failure) api.Step {
	t := w.transaction
	switch {
	case t.phase == phaseInitial && f.Code == api.CodePreAuthNeeded && t.method == 0:
		if p, ok := w.authenticate(f.Data); ok {
			return w.send(p)
		}
	case t.phase == phaseExchange && f.Code == api.CodeMorePreAuth:
		element, _ := message.PreAuth(f.Data, api.PreAuthPake)
		if t.exchange.Finish(element) == api.OK {
			confirmation := need(t.exchange.Confirm())
			t.phase = phaseInitial
			return w.send(api.PreAuth{Kind: api.PreAuthPake, Bytes: append(t.exchange.Element(), confirmation...)})
		}
	}
	return w.failed(f.Code)
}

// passwordKey returns the password key for the offer in pre-authentication data.
func (w *work) passwordKey(l []api.PreAuth) (api.Key, bool) {
	b, ok := message.PreAuth(l, api.PreAuthSalt)
	offer, e := entry.DecodeOffer(b)
	if !ok || e != api.OK {
		return api.Key{}, false
	}
	for _, number := range w.config.Profiles {
		for _, s := range offer {
			if s.Profile == number && s.Iterations != 0 {
				k, e := profile.FromPassword(number, string(w.config.Password), s.Salt, s.Iterations)
				return k, e == api.OK
			}
		}
	}
	return api.Key{}, false
}

// methods returns the methods of pre-authentication; each one returns an element, if it is possible.
func methods() map[int]func(*work) (api.PreAuth, bool) {
	return map[int]func(*work) (api.PreAuth, bool){
		api.PreAuthTimestamp: (*work).timestamp,
		api.PreAuthPake:      (*work).pake,
		api.PreAuthPublic:    (*work).public,
	}
}

// choice returns the method for the offers of a centre, or 0.
func (w *work) choice(l []api.PreAuth) int {
	b, ok := message.PreAuth(l, w.config.Method)
	if w.config.Method == api.PreAuthPake {
		ok = ok && len(b) == 1 && int(b[0]) == w.config.Group
	}
	if ok {
		return w.config.Method
	}
	_, ok = message.PreAuth(l, api.PreAuthTimestamp)
	return choose(ok, func() int { return api.PreAuthTimestamp })
}

// authenticate returns the element of the method for the offers of a centre, if it is possible.
func (w *work) authenticate(l []api.PreAuth) (api.PreAuth, bool) {
	t := w.transaction
	method := w.choice(l)
	if method == 0 {
		return api.PreAuth{}, false
	}
	if method != api.PreAuthPublic {
		k, ok := w.passwordKey(l)
		if !ok {
			return api.PreAuth{}, false
		}
		t.key = k
	}
	t.method = method
	return methods()[method](w)
}

// timestamp returns an encrypted timestamp.
func (w *work) timestamp() (api.PreAuth, bool) {
	k := w.transaction.key
	p, e := timestamp.Make(k, w.now, w.micro, centre.Confounder(w.random, k))
	return p, e == api.OK
}

// pake returns the first step of a password exchange.
func (w *work) pake() (api.PreAuth, bool) {
	t := w.transaction
	body := need(message.Body(t.request))
	private := need(w.random.Bytes(pake.PrivateLen))
	x, e := pake.Start(pake.SideClient, w.config.Group, t.key.Bytes, body, private)
	if e != api.OK {
		return api.PreAuth{}, false
	}
	t.exchange, t.phase = x, phaseExchange
	return api.PreAuth{Kind: api.PreAuthPake, Bytes: x.Element()}, true
}

// public returns a question with a certificate.
func (w *work) public() (api.PreAuth, bool) {
	t := w.transaction
	dh := need(w.random.Bytes(pkinit.PrivateLen))
	nonce := need(w.random.Bytes(pkinit.PrivateLen))
	p, e := pkinit.Ask(w.config.Chain, w.config.Private, w.config.Group, dh, t.request, w.now, nonce)
	if e != api.OK {
		return api.PreAuth{}, false
	}
	t.question, t.dh = p, dh
	return p, true
}

// replyKey returns the key with which an initial reply is sealed.
func (w *work) replyKey(r api.Reply) api.Key {
	t := w.transaction
	switch t.method {
	case api.PreAuthTimestamp:
		return t.key
	case api.PreAuthPake:
		b, _ := message.PreAuth(r.PreAuth, api.PreAuthPake)
		need(0, t.exchange.Verify(b))
		k := need(t.exchange.Key())
		return need(profile.FromBytes(t.key.Profile, k[:profile.KeyLen(t.key.Profile)]))
	case api.PreAuthPublic:
		b, ok := message.PreAuth(r.PreAuth, api.PreAuthPublic)
		require(ok, api.ErrReply)
		response := api.PreAuth{Kind: api.PreAuthPublic, Bytes: b}
		return need(pkinit.Finish(t.question, response, w.config.Anchors, w.config.Revoked, t.dh, t.request, w.now, r.Sealed.Profile))
	}
	k, ok := w.passwordKey(r.PreAuth)
	require(ok, api.ErrReply)
	return k
}
