package world

import (
	"slices"
	"strconv"

	"watchword/address"
	"watchword/api"
	"watchword/audit"
	"watchword/client"
	"watchword/database"
	"watchword/drift"
	"watchword/entry"
	"watchword/failover"
	"watchword/kdc"
	"watchword/keytab"
	"watchword/lifetime"
	"watchword/network"
	"watchword/referral"
	"watchword/route"
	"watchword/service"
	"watchword/update"
)

// hostOf returns the host of a node.
func hostOf(realm string, node int) string { return realm + "/" + strconv.Itoa(node) }

// addressOf returns the address of a host.
func addressOf(host string) api.Address {
	a := api.Address{Kind: address.KindHost, Bytes: []byte(host)}
	if !address.Valid(a) {
		return api.Address{}
	}
	return a
}

// copyMessage returns an equal message.
func copyMessage(m failover.Message) failover.Message {
	c := m
	c.Updates = nil
	for _, u := range m.Updates {
		c.Updates = append(c.Updates, update.Copy(u))
	}
	return c
}

// builder makes a world of a configuration.
type builder struct {
	api.WorldConfig
	w      *World
	trusts *route.Map
	policy *route.Policy
	hosts  *referral.Hosts
	used   map[string]bool // the names of hosts
}

// New returns a world.
func New(c api.WorldConfig) (w *World, e api.Errno) {
	defer func() {
		if _, ok := recover().(failure); ok {
			w, e = nil, api.ErrArg
		}
	}()
	b := &builder{c, &World{time: c.Start, network: &network.Network{}}, &route.Map{}, &route.Policy{}, &referral.Hosts{}, map[string]bool{}}
	require(within(c.Start, 0, MaxStart) && within(len(c.Seed), 1, MaxSeed) && within(len(c.Realms), 1, MaxRealms), api.ErrArg)
	require(len(c.Clients) <= MaxHosts && len(c.Services) <= MaxHosts, api.ErrArg)
	b.addRules()
	for _, r := range c.Realms {
		b.addRealm(r)
	}
	for _, x := range c.Clients {
		b.addClient(x)
	}
	for _, x := range c.Services {
		b.addService(x)
	}
	b.w.auditor = need(audit.New(b.policy, c.Delegations, lifetime.MaxSkew))
	for i, r := range c.Realms {
		b.fill(b.w.realms[i], r)
	}
	return b.w, api.OK
}

// within reports whether a number is in a range.
func within(v, low, high int) bool { return v >= low && v <= high }

// addRules adds the rules that all realms share.
func (b *builder) addRules() {
	for _, t := range b.Trusts {
		need(0, b.trusts.Trust(t[0], t[1]))
	}
	for _, r := range b.Rules {
		require(len(r) >= 2, api.ErrArg)
		need(0, b.policy.Allow(r[0], r[1], r[2:]...))
	}
	for _, s := range b.Suffixes {
		need(0, b.hosts.Add(s[0], s[1]))
	}
}

// useHost notes the name of a host, which must be valid and another one than those before.
func (b *builder) useHost(host string) {
	require(address.Valid(addressOf(host)) && !b.used[host], api.ErrArg)
	b.used[host] = true
}

// seed returns the seed of a host.
func (b *builder) seed(host string) []byte { return append(slices.Clone(b.Seed), host...) }

// addRealm adds a realm, whose first database must be possible.
func (b *builder) addRealm(r api.WorldRealm) {
	require(within(r.Nodes, 1, MaxNodes) && len(r.Config.Realm) <= MaxHost-2, api.ErrArg)
	d := need(database.New(r.Config.Realm))
	x := &realm{name: r.Config.Realm, letters: map[int]failover.Message{}}
	for n := range r.Nodes {
		host := hostOf(x.name, n)
		b.useHost(host)
		x.nodes = append(x.nodes, need(failover.New(x.name, n, r.Nodes)))
		x.centres = append(x.centres, need(kdc.New(r.Config, d, b.trusts, b.policy, b.hosts, b.seed(host))))
	}
	for _, p := range r.Policies {
		need(0, d.PutPolicy(p))
	}
	for _, e := range r.Entries {
		need(0, d.Put(e))
	}
	b.w.realms = append(b.w.realms, x)
}

// addClient adds a client.
func (b *builder) addClient(x api.WorldClient) {
	b.useHost(x.Host)
	c := need(client.New(x.Config, b.seed(x.Host)))
	clock := need(drift.New(b.Start, b.Start+x.Offset, x.Rate))
	b.w.clients = append(b.w.clients, &clientHost{host: x.Host, client: c, clock: clock})
}

// addService adds a service.
func (b *builder) addService(x api.WorldService) {
	b.useHost(x.Host)
	t := &keytab.Table{}
	for _, k := range x.Keys {
		need(0, t.Add(k))
	}
	s := need(service.New(x.Config, t, b.seed(x.Host)))
	clock := need(drift.New(b.Start, b.Start+x.Offset, x.Rate))
	b.w.services = append(b.w.services, &serviceHost{host: x.Host, service: s, clock: clock})
}

// pass passes messages in order until there are none.
func (r *realm) pass(l []failover.Message) {
	for len(l) > 0 {
		answers, _ := r.nodes[l[0].To].Receive(l[0])
		l = append(l[1:], answers...)
	}
}

// fill brings the first database to all nodes of a realm.
func (b *builder) fill(x *realm, r api.WorldRealm) {
	first := x.nodes[0]
	x.pass(need(first.Elect()))
	offer := func(u api.Update) {
		u.Time = b.Start
		_, l, e := first.Offer(u)
		require(e == api.OK, api.ErrArg)
		x.pass(l)
	}
	for _, p := range r.Policies {
		offer(api.Update{Kind: api.UpdatePolicy, Policy: p})
	}
	for _, e := range r.Entries {
		offer(api.Update{Kind: api.UpdatePut, Entry: entry.Copy(e)})
	}
	x.pass(need(first.Beat()))
	for i, c := range x.centres {
		need(0, c.SetDatabase(x.nodes[i].Database()))
	}
}
