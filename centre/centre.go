// Package centre has what the exchanges of a key distribution centre share.
package centre

import (
	"watchword/address"
	"watchword/api"
	"watchword/profile"
	"watchword/random"
	"watchword/shape"
)

// Now is when and from where a request arrives.
type Now struct {
	From        api.Address
	Time, Micro int
}

// Valid reports whether the address, the time and the microseconds are valid.
func (n Now) Valid() bool {
	none := n.From.Kind == 0 && len(n.From.Bytes) == 0
	return (none || address.Valid(n.From)) && shape.Times(n.Time) && shape.Micro(n.Micro)
}

// Fact returns the fact of a request.
func (n Now) Fact(kind api.RequestKind, client, service api.Principal, code int) api.Fact {
	from := api.Address{Kind: n.From.Kind, Bytes: shape.Bytes(n.From.Bytes)}
	return api.Fact{Time: n.Time, Micro: n.Micro, Kind: kind, From: from, Client: client, Service: service, Code: code}
}

// Failure returns an error message.
func (n Now) Failure(client, service api.Principal, code int, data []api.PreAuth) api.Failure {
	return api.Failure{Code: code, Time: n.Time, Micro: n.Micro, Client: client, Service: service, Data: data}
}

// Usable reports whether a generator is one.
func Usable(g *random.Generator) bool { return g.Copy() != nil }

// Keys returns the keys of an entry that a centre can use.
func Keys(e api.Entry) []api.Key {
	if e.Master != 0 || len(e.Keys) == 0 {
		return nil
	}
	return shape.Copies(e.Keys[0].Keys, profile.Copy)
}

// KeyFor returns the key whose profile comes first in a list of profiles.
func KeyFor(keys []api.Key, profiles []int) (api.Key, bool) {
	for _, p := range profiles {
		for _, k := range keys {
			if k.Profile == p {
				return k, true
			}
		}
	}
	return api.Key{}, false
}

// Expired reports whether an entry is expired.
func Expired(e api.Entry, now int) bool { return e.Expires != 0 && now >= e.Expires }

// ClientCode returns the code of a client that is disabled or expired, or CodeOK.
func ClientCode(e api.Entry, now int) int {
	switch {
	case e.Attributes&api.AttrDisabled != 0:
		return api.CodeClientRevoked
	case Expired(e, now):
		return api.CodeClientExpired
	}
	return api.CodeOK
}

// ServiceCode returns the code of a service for which there are no tickets, or CodeOK.
func ServiceCode(e api.Entry, now int) int {
	switch {
	case e.Attributes&(api.AttrDisabled|api.AttrNoService) != 0:
		return api.CodeServiceRevoked
	case Expired(e, now):
		return api.CodeServiceExpired
	}
	return api.CodeOK
}

// KeyCode returns the code of an entry without keys or without one for profiles, or CodeOK.
func KeyCode(keys []api.Key, profiles []int) int {
	if len(keys) == 0 {
		return api.CodeNoKey
	}
	if _, ok := KeyFor(keys, profiles); !ok {
		return api.CodeNoProfile
	}
	return api.CodeOK
}

// Confounder returns the next confounder for a key.
func Confounder(g *random.Generator, k api.Key) []byte {
	b, _ := g.Bytes(profile.ConfounderLen(k.Profile))
	return b
}

// Session returns the next session key of a profile.
func Session(g *random.Generator, number int) api.Key {
	k, _ := g.Key(number, profile.KeyLen(number))
	return k
}
