package console

import (
	"strconv"

	"watchword/address"
	"watchword/api"
	"watchword/client"
	"watchword/flags"
	"watchword/kdc"
	"watchword/name"
	"watchword/profile"
)

// allowed are the flags that all realms allow.
const allowed = api.FlagForwardable | api.FlagProxiable | api.FlagMayPostdate | api.FlagRenewable | api.FlagDelegate

// handle handles a message for a realm, and returns the reply.
func (j *job) handle(to string, b []byte) []byte {
	r := j.realms.find(to)
	config := api.CentreConfig{Realm: to, Skew: skew, Life: life, Renew: renewLife, Allowed: allowed, PakeGroup: 1}
	seed := to + "#" + strconv.Itoa(j.handled)
	centre := need(kdc.New(config, r.database, &j.trusts, &j.policy, &j.hosts, []byte(seed)))
	o := need(centre.Handle(b, api.Address{}, j.time, 0))
	j.handled++
	r.database = centre.Database()
	o.Fact.From = api.Address{Kind: address.KindHost, Bytes: []byte("console")}
	r.facts = append(r.facts, o.Fact)
	if n := len(r.facts); n > MaxFacts {
		r.facts = r.facts[n-MaxFacts:]
	}
	return o.Reply
}

// exchange lets a client reach a goal.
func (j *job) exchange(c *client.Client, g api.Goal) []string {
	step := need(c.Start(g, j.time, 0))
	// What is changed from here on stays, but the transaction ends.
	j.kept = true
	defer c.Cancel()
	for n := 0; step.Kind == api.StepSend; n++ {
		require(n < MaxMessages, api.ErrFull)
		step = need(c.Receive(j.handle(step.Realm, step.Bytes), j.time, 0))
	}
	if step.Kind == api.StepFailed {
		return []string{line("failed", step.Code)}
	}
	x := step.Credential
	return []string{line("done", principal(x.Service), "end", x.Times.End, "flags", need(flags.Text(x.Flags)))}
}

// get lets a client get a ticket.
func (j *job) get() []string {
	var n partyWord
	var s api.Principal
	j.read(&n, &s)
	return j.exchange(j.clients.find(string(n)), api.Goal{Service: s})
}

// renew lets a client renew the ticket for its home service.
func (j *job) renew() []string {
	var n partyWord
	j.read(&n)
	c := j.clients.find(string(n))
	realm := c.Config().Client.Realm
	return j.exchange(c, api.Goal{Service: need(name.TicketGranting(realm, realm)), Options: api.OptionRenew})
}

// forUser lets a service get a ticket for a user to itself.
func (j *job) forUser() []string {
	var n partyWord
	var u api.Principal
	j.read(&n, &u)
	c := j.clients.find(string(n))
	return j.exchange(c, api.Goal{Service: c.Config().Client, User: u})
}

// proxy lets a service get a ticket for a user to another service.
func (j *job) proxy() []string {
	var n partyWord
	var u, s api.Principal
	j.read(&n, &u, &s)
	c := j.clients.find(string(n))
	x := need(c.Cache().Get(u, c.Config().Client))
	return j.exchange(c, api.Goal{Service: s, Options: api.OptionConstrained, User: u, Evidence: x.Ticket})
}

// call lets a client call a service.
func (j *job) call() []string {
	var n, m partyWord
	j.read(&n, &m)
	c, s := j.clients.find(string(n)), j.services.find(string(m))
	b, _, e := c.Call(c.Config().Client, s.Config().Service, true, true, j.time, 0)
	need(0, e)
	a, reply, e := s.Accept(b, api.Address{}, j.time)
	need(0, e)
	established := need(c.Reply(reply))
	result := "different"
	if profile.Equal(established.Stream, a.Stream) {
		result = "equal"
	}
	return []string{line("accepted", principal(a.Client), result)}
}
