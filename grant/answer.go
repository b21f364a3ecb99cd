package grant

import (
	"watchword/address"
	"watchword/api"
	"watchword/apmessage"
	"watchword/centre"
	"watchword/entry"
	"watchword/flags"
	"watchword/initial"
	"watchword/lifetime"
	"watchword/message"
	"watchword/name"
	"watchword/pac"
	"watchword/referral"
	"watchword/ticket"
)

// decodeRequest decodes the service request.
func (q *presenting) decodeRequest(b []byte) int {
	s, e := apmessage.DecodeRequest(b)
	q.p.Ticket, q.sealed = s.Ticket, s.Sealed
	return when(e != api.OK, api.CodeMessage)
}

// findKey finds the key of an entry with which a ticket is sealed.
func findKey(e api.Entry, s api.Sealed) (api.Key, bool) {
	k, code := entry.Find(e, s.Version, s.Profile)
	return k, code == api.OK
}

// checkCode returns the code of an error of the check of a ticket part.
func checkCode(e api.Errno) int {
	switch e {
	case api.OK:
		return api.CodeOK
	case lifetime.ErrExpired:
		return api.CodeTicketExpired
	case api.ErrTicketAddress:
		return api.CodeAddress
	}
	return api.CodeTicketEarly
}

// granting is a request for which a ticket is granted.
type granting struct {
	Realm
	centre.Now
	r        api.Request
	p        Presented
	client   api.Principal
	data     []api.Data
	target   api.Entry
	referred bool // the target is a referral
	flags    api.Flags
	times    api.Times
	allowed  bool // all transited realms are allowed
}

// answer returns the answer; further steps follow the common ones.
func (a *granting) answer(further ...func() int) api.Result {
	steps := append([]func() int{a.setTarget, a.checkTarget, a.checkPath, a.setFlags, a.setTimes}, further...)
	if code := first(steps...); code != api.CodeOK {
		return refused(a.Now, a.client, a.r.Service, code)
	}
	result, code := a.reply()
	if code != api.CodeOK {
		return refused(a.Now, a.client, a.r.Service, code)
	}
	return result
}

// has reports whether an option is among those of the request.
func (a *granting) has(option api.Flags) bool { return flags.Has(a.r.Options, option) }

// same reports whether the ticket itself is wanted again.
func (a *granting) same() bool { return a.r.Options&(api.OptionRenew|api.OptionValidate) != 0 }

// postdated reports whether a ticket for a later time is wanted.
func (a *granting) postdated() bool { return a.r.From > a.Time+a.Config.Skew }

// setTarget finds the target.
func (a *granting) setTarget() int {
	if a.same() {
		e, issuer, ok := Issuer(a.Realm, a.p.Ticket.Service)
		own := issuer == a.Config.Realm && a.p.Issuer == a.Config.Realm
		a.target = e
		return when(!name.Equal(a.r.Service, a.p.Ticket.Service) || !ok || !own, api.CodeBadOption)
	}
	found, e := referral.Service(a.Database, a.Map, a.Hosts, a.r.Service, a.has(api.OptionCanonical))
	if e != api.OK {
		return api.CodeServiceUnknown
	}
	a.referred = found.Kind == referral.FoundReferral
	target, ok := a.entry(found.Name)
	a.target = target
	return when(!ok, api.CodeServiceUnknown)
}

// checkTarget checks the entry of the target.
func (a *granting) checkTarget() int {
	return first(
		func() int { return centre.ServiceCode(a.target, a.Time) },
		func() int { return centre.KeyCode(centre.Keys(a.target), a.r.Profiles) },
	)
}

// checkPath checks the transited realms.
func (a *granting) checkPath() int {
	_, e := a.Policy.Check(a.client.Realm, a.Config.Realm, a.p.Transited)
	a.allowed = e == api.OK
	to, granting := name.Target(a.target.Name)
	elsewhere := granting && to != a.Config.Realm
	return when(!elsewhere && !a.allowed, api.CodePath)
}

// setFlags sets the flags.
func (a *granting) setFlags() int {
	options := a.r.Options &^ (api.OptionCanonical | api.OptionRenewableOK | api.OptionConstrained)
	if !a.postdated() {
		options &^= api.FlagPostdated
	}
	var client api.Entry
	if a.client.Realm == a.Config.Realm {
		client, _ = a.entry(a.client)
	}
	f, e := flags.Grant(options, a.p.Part.Flags, initial.Allowed(a.Config, client, a.target))
	switch {
	case e == flags.ErrInvalid:
		return api.CodeTicketEarly
	case e == flags.ErrDenied && flags.Has(options, api.FlagPostdated):
		return api.CodeNoPostdate
	case e != api.OK:
		return api.CodeBadOption
	}
	a.flags = f
	if a.allowed {
		a.flags |= api.FlagTransited
	}
	return when(a.postdated() && !a.has(api.FlagPostdated), api.CodeNoPostdate)
}

// setTimes sets the times.
func (a *granting) setTimes() int {
	t, e := a.newTimes()
	switch e {
	case api.OK:
	case lifetime.ErrRenew:
		return api.CodeBadOption
	case lifetime.ErrExpired:
		return api.CodeTicketExpired
	case lifetime.ErrEarly:
		return api.CodeTicketEarly
	default:
		return api.CodeNeverValid
	}
	a.times = t
	if t.Renew == 0 {
		a.flags &^= api.FlagRenewable
	}
	return api.CodeOK
}

// newTimes returns the times of the new ticket.
func (a *granting) newTimes() (api.Times, api.Errno) {
	base := a.p.Part.Times
	switch {
	case a.has(api.OptionValidate):
		return base, api.OK
	case a.has(api.OptionRenew):
		return lifetime.Renew(base, a.Time, a.Config.Skew)
	}
	w := lifetime.Wish{From: a.r.From, Till: a.r.Till}
	if flags.Has(a.flags, api.FlagRenewable) {
		w.Renew = a.r.Renew
	}
	return lifetime.Derive(base, w, initial.Limits(a.Config, a.target), a.Time, a.Config.Skew)
}

// authorise sets the authorisation data.
func (a *granting) authorise() int {
	own := a.Config.Realm
	service, _ := name.TicketGranting(own, own)
	granting, _ := a.entry(service)
	keys := centre.Keys(granting)
	if len(keys) == 0 {
		return api.CodeNoKey
	}
	local := a.p.Issuer == own
	p := api.Pac{Client: a.client, Auth: a.p.Part.Times.Auth}
	if b, ok := pac.Find(a.data); ok {
		realm := keys[0]
		if !local {
			realm = api.Key{}
		}
		verified, e := pac.Verify(b, a.p.Key, realm)
		if e != api.OK || pac.Bind(verified, p.Client, p.Auth) != api.OK {
			return api.CodeIntegrity
		}
		p = verified
	} else if !local || a.client.Realm != own {
		return api.CodeOK
	}
	b, e := pac.Sign(p, centre.Keys(a.target)[0], keys[0])
	if e != api.OK {
		return api.CodeGeneric
	}
	a.data, e = pac.Put(a.data, b)
	return when(e != api.OK, api.CodeGeneric)
}

// addresses returns the addresses of the new ticket.
func (a *granting) addresses() []api.Address {
	if a.r.Options&(api.FlagForwarded|api.FlagProxy) != 0 {
		return address.Copy(a.r.Addresses)
	}
	return address.Copy(a.p.Part.Addresses)
}

// reply returns the reply, or a code.
func (a *granting) reply() (api.Result, int) {
	keys := centre.Keys(a.target)
	shared, _ := centre.KeyFor(keys, a.r.Profiles)
	replyKey := a.p.Authenticator.Subkey
	if replyKey.Profile == 0 {
		replyKey = a.p.Part.Session
	}
	session := centre.Session(a.Random, shared.Profile)
	ticketConfounder := centre.Confounder(a.Random, keys[0])
	replyConfounder := centre.Confounder(a.Random, replyKey)
	service := a.r.Service
	if a.has(api.OptionCanonical) || a.referred {
		service = a.target.Name
	}
	t, e := ticket.Seal(keys[0], service, api.TicketPart{
		Flags: a.flags, Session: session, Client: a.client, Transited: a.p.Transited, Times: a.times, Addresses: a.addresses(), Data: a.data,
	}, ticketConfounder)
	if e != api.OK {
		return api.Result{}, api.CodeGeneric
	}
	sealed, e := message.SealPart(api.RequestGrant, replyKey, api.ReplyPart{
		Session: session, Nonce: a.r.Nonce, Flags: a.flags, Times: a.times, Service: service, Addresses: a.addresses(),
	}, replyConfounder)
	if e != api.OK {
		return api.Result{}, api.CodeGeneric
	}
	fact := a.Fact(api.RequestGrant, name.Copy(a.client), name.Copy(a.r.Service), api.CodeOK)
	fact.PreAuth, fact.Flags = api.PreAuthTicket, a.flags
	return api.Result{
		Reply: api.Reply{Kind: api.RequestGrant, Client: name.Copy(a.client), Ticket: t, Sealed: sealed},
		Fact:  fact,
	}, api.CodeOK
}
