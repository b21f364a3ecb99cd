package initial

import (
	"slices"

	"watchword/api"
	"watchword/centre"
	"watchword/database"
	"watchword/entry"
	"watchword/flags"
	"watchword/lifetime"
	"watchword/lockout"
	"watchword/message"
	"watchword/name"
	"watchword/pkinit"
	"watchword/random"
	"watchword/ticket"
)

// request is a request that is answered, with what is known of it so far.
type request struct {
	api.CentreConfig
	centre.Now
	d               *database.Database
	g               *random.Generator
	r               api.Request
	client, service api.Entry
	used            int // the kind of the used element, or 0
	bytes           []byte
	replyKey        api.Key
	question        pkinit.Question // for PreAuthPublic
	confirmation    []byte          // for PreAuthPake
	flags           api.Flags
	times           api.Times
}

// refusal is a code with which an answer leaves by a panic.
type refusal struct {
	code int
	data []api.PreAuth
}

// answer returns the answer.
func (q *request) answer() (result api.Result) {
	defer func() {
		if x, ok := recover().(refusal); ok {
			result = api.Result{
				Failure: q.Failure(name.Copy(q.r.Client), name.Copy(q.r.Service), x.code, x.data),
				Fact:    q.fact(x.code),
			}
		}
	}()
	for _, condition := range q.conditions() {
		q.require(condition())
	}
	return q.reply()
}

// fact returns the fact with a code.
func (q *request) fact(code int) api.Fact {
	return q.Fact(api.RequestInitial, name.Copy(q.r.Client), name.Copy(q.r.Service), code)
}

// require refuses the request unless a code is CodeOK.
func (q *request) require(code int) {
	if code != api.CodeOK {
		panic(refusal{code: code})
	}
}

// when returns a code if a condition is met, otherwise CodeOK.
func when(condition bool, code int) int {
	if condition {
		return code
	}
	return api.CodeOK
}

// conditions returns the conditions; each one returns a code.
func (q *request) conditions() []func() int {
	return []func() int{
		func() int {
			return when(q.r.Client.Realm != q.Realm || q.r.Service.Realm != q.Realm, api.CodeWrongRealm)
		},
		func() int { return when(!q.find(q.r.Client, &q.client), api.CodeClientUnknown) },
		func() int { return when(!q.find(q.r.Service, &q.service), api.CodeServiceUnknown) },
		func() int { return centre.ClientCode(q.client, q.Time) },
		func() int { return when(q.locked(), api.CodeClientRevoked) },
		func() int { return centre.ServiceCode(q.service, q.Time) },
		func() int { return when(q.keyExpired(), api.CodeKeyExpired) },
		func() int { return centre.KeyCode(centre.Keys(q.service), q.r.Profiles) },
		func() int {
			return when(q.postdated() && !flags.Has(q.r.Options, api.FlagPostdated), api.CodeNoPostdate)
		},
		q.authenticate,
		q.setFlags,
		q.setTimes,
	}
}

// find finds the entry with a name, or, if canonical names are wanted, with an alias.
func (q *request) find(p api.Principal, e *api.Entry) bool {
	found, code := q.d.Get(p)
	*e = found
	return code == api.OK && (name.Equal(found.Name, p) || flags.Has(q.r.Options, api.OptionCanonical))
}

// locked reports whether the account of the client is locked.
func (q *request) locked() bool {
	p, e := q.d.Policy(q.client.Policy)
	if e != api.OK {
		return false
	}
	locked, _ := lockout.Locked(q.client, p, q.Time)
	return locked
}

// keyExpired reports whether the password of the client must be changed first.
func (q *request) keyExpired() bool {
	e := q.client
	old := e.PasswordExpires != 0 && q.Time >= e.PasswordExpires
	return (e.Attributes&api.AttrMustChange != 0 || old) && !slices.Equal(q.service.Name.Parts, []string{"kadmin", "changepw"})
}

// postdated reports whether a ticket for a later time is wanted.
func (q *request) postdated() bool { return q.r.From > q.Time+q.Skew }

// setFlags sets the flags.
func (q *request) setFlags() int {
	options := q.r.Options &^ (api.OptionCanonical | api.OptionRenewableOK)
	if !q.postdated() {
		options &^= api.FlagPostdated
	}
	f, e := flags.Initial(options, Allowed(q.CentreConfig, q.client, q.service), q.used != 0)
	q.flags = f
	switch e {
	case api.OK:
		return api.CodeOK
	case flags.ErrDenied:
		return api.CodeNoPostdate
	}
	return api.CodeBadOption
}

// setTimes sets the times.
func (q *request) setTimes() int {
	w := lifetime.Wish{From: q.r.From, Till: q.r.Till}
	if flags.Has(q.flags, api.FlagRenewable) {
		w.Renew = q.r.Renew
	}
	t, e := lifetime.Initial(w, Limits(q.CentreConfig, q.client, q.service), q.Time, q.Skew)
	if e != api.OK {
		return api.CodeNeverValid
	}
	q.times = t
	if t.Renew == 0 {
		q.flags &^= api.FlagRenewable
	}
	return api.CodeOK
}

// reply returns the reply.
func (q *request) reply() api.Result {
	serviceKey := centre.Keys(q.service)[0]
	shared, _ := centre.KeyFor(centre.Keys(q.service), q.r.Profiles)
	session := centre.Session(q.g, shared.Profile)
	var dh, nonce []byte
	if q.used == api.PreAuthPublic {
		dh, _ = q.g.Bytes(pkinit.PrivateLen)
		nonce, _ = q.g.Bytes(pkinit.PrivateLen)
		q.replyKey = api.Key{Profile: session.Profile}
	}
	ticketConfounder := centre.Confounder(q.g, serviceKey)
	replyConfounder := centre.Confounder(q.g, q.replyKey)
	preAuth := q.replyPreAuth(dh, nonce)
	service := q.r.Service
	if flags.Has(q.r.Options, api.OptionCanonical) {
		service = q.service.Name
	}
	t, e := ticket.Seal(serviceKey, service, api.TicketPart{
		Flags: q.flags, Session: session, Client: q.client.Name, Times: q.times, Addresses: q.r.Addresses,
	}, ticketConfounder)
	q.require(when(e != api.OK, api.CodeGeneric))
	sealed, e := message.SealPart(api.RequestInitial, q.replyKey, api.ReplyPart{
		Session: session, Nonce: q.r.Nonce, Expires: q.client.PasswordExpires, Flags: q.flags, Times: q.times,
		Service: service, Addresses: q.r.Addresses,
	}, replyConfounder)
	q.require(when(e != api.OK, api.CodeGeneric))
	if q.used != 0 {
		lockout.Record(q.d, q.client.Name, true, q.Time)
	}
	fact := q.fact(api.CodeOK)
	fact.PreAuth, fact.Flags = q.used, q.flags
	return api.Result{
		Reply: api.Reply{Kind: api.RequestInitial, PreAuth: preAuth, Client: name.Copy(q.client.Name), Ticket: t, Sealed: sealed},
		Fact:  fact,
	}
}

// replyPreAuth returns the pre-authentication data of the reply, and sets the reply key for PreAuthPublic.
func (q *request) replyPreAuth(dh, nonce []byte) []api.PreAuth {
	switch q.used {
	case api.PreAuthPake:
		return []api.PreAuth{{Kind: api.PreAuthPake, Bytes: q.confirmation}}
	case api.PreAuthPublic:
		p, k, e := pkinit.Answer(q.question, q.Chain, q.Private, dh, nonce, q.replyKey.Profile)
		q.require(when(e != api.OK, api.CodeGeneric))
		q.replyKey = k
		return []api.PreAuth{p}
	}
	offer, _ := entry.Offer(q.client)
	offer = slices.DeleteFunc(offer, func(s api.Salt) bool { return s.Profile != q.replyKey.Profile })
	b, _ := entry.EncodeOffer(offer)
	return []api.PreAuth{{Kind: api.PreAuthSalt, Bytes: b}}
}
