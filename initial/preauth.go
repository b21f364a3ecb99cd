package initial

import (
	"watchword/api"
	"watchword/centre"
	"watchword/group"
	"watchword/lockout"
	"watchword/mac"
	"watchword/message"
	"watchword/name"
	"watchword/pake"
	"watchword/pkinit"
	"watchword/profile"
	"watchword/timestamp"
)

// authenticate finds the used element and checks it.
func (q *request) authenticate() int {
	kinds := map[int]func() int{0: q.plain, api.PreAuthTimestamp: q.timestamp}
	if q.PakeGroup != 0 {
		kinds[api.PreAuthPake] = q.pake
	}
	if len(q.Anchors) > 0 {
		kinds[api.PreAuthPublic] = q.public
	}
	for _, p := range q.r.PreAuth {
		if check, ok := kinds[p.Kind]; ok && p.Kind != 0 {
			q.used, q.bytes = p.Kind, p.Bytes
			return check()
		}
	}
	return kinds[0]()
}

// offers returns the offers for the client.
func (q *request) offers() []api.PreAuth {
	l, _ := Offers(q.CentreConfig, q.client)
	return l
}

// failed records a failed attempt and refuses the request.
func (q *request) failed() {
	lockout.Record(q.d, q.client.Name, false, q.Time)
	panic(refusal{api.CodePreAuthFailed, q.offers()})
}

// clientKey returns the client's key.
func (q *request) clientKey() api.Key {
	keys := centre.Keys(q.client)
	q.require(centre.KeyCode(keys, q.r.Profiles))
	k, _ := centre.KeyFor(keys, q.r.Profiles)
	return k
}

// plain accepts a request without a used element.
func (q *request) plain() int {
	if (q.client.Attributes|q.service.Attributes)&api.AttrPreAuth != 0 {
		panic(refusal{api.CodePreAuthNeeded, q.offers()})
	}
	q.replyKey = q.clientKey()
	return api.CodeOK
}

// timestamp accepts an encrypted timestamp.
func (q *request) timestamp() int {
	q.clientKey()
	keys := centre.Keys(q.client)
	index, _, _, e := timestamp.Find(keys, api.PreAuth{Kind: api.PreAuthTimestamp, Bytes: q.bytes}, q.Time, q.Skew)
	switch e {
	case api.OK:
		q.replyKey = keys[index]
		return api.CodeOK
	case api.ErrSkew:
		return api.CodeSkew
	}
	q.failed()
	return api.CodePreAuthFailed
}

// public accepts a question with a certificate.
func (q *request) public() int {
	question, e := pkinit.Check(api.PreAuth{Kind: api.PreAuthPublic, Bytes: q.bytes}, q.Anchors, q.Revoked, q.r, q.Time, q.Skew)
	switch e {
	case api.OK:
		q.question = question
		return api.CodeOK
	case api.ErrSkew:
		return api.CodeSkew
	}
	q.failed()
	return api.CodePreAuthFailed
}

// realmKey returns the first key of the realm's own ticket-granting service.
func (q *request) realmKey() api.Key {
	service, _ := name.TicketGranting(q.Realm, q.Realm)
	e, code := q.d.Get(service)
	keys := centre.Keys(e)
	q.require(when(code != api.OK || !name.Equal(e.Name, service) || len(keys) == 0, api.CodeNoKey))
	return keys[0]
}

// pake accepts one of the two steps of a password exchange.
func (q *request) pake() int {
	k := q.clientKey()
	n := group.Len(q.PakeGroup)
	second := len(q.bytes) == n+pake.KeyLen
	if len(q.bytes) != n && !second {
		q.failed()
	}
	element := q.bytes[:n:n]
	body, _ := message.Body(q.r)
	private, _ := mac.HMAC(q.realmKey().Bytes, []byte("watchword pake server"), body, element)
	q.require(when(len(body) > pake.MaxContext, api.CodePolicy))
	x, e := pake.Start(pake.SideServer, q.PakeGroup, k.Bytes, body, private[:])
	q.require(when(e != api.OK, api.CodeGeneric))
	if x.Finish(element) != api.OK {
		q.failed()
	}
	if !second {
		panic(refusal{api.CodeMorePreAuth, []api.PreAuth{{Kind: api.PreAuthPake, Bytes: x.Element()}}})
	}
	if x.Verify(q.bytes[n:]) != api.OK {
		q.failed()
	}
	key, _ := x.Key()
	q.confirmation, _ = x.Confirm()
	q.replyKey, _ = profile.FromBytes(k.Profile, key[:profile.KeyLen(k.Profile)])
	return api.CodeOK
}
