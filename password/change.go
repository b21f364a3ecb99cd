package password

import (
	"bytes"
	"slices"

	"watchword/api"
	"watchword/database"
	"watchword/entry"
	"watchword/name"
	"watchword/policy"
	"watchword/profile"
	"watchword/shape"
)

// change is a change of the entry with a name in a database.
type change struct {
	d      *database.Database
	entry  api.Entry
	policy api.Policy // the zero value, if there is none
	rule   api.Rule   // that the new password breaks
}

// find finds the entry with a name, whose keys must not be wrapped.
func (c *change) find(p api.Principal) func() api.Errno {
	return func() api.Errno {
		e, code := c.d.Get(p)
		if code != api.OK || !name.Equal(e.Name, p) {
			return api.ErrNone
		}
		if e.Master != 0 {
			return api.ErrState
		}
		c.entry = e
		if e.Policy != "" {
			c.policy, code = c.d.Policy(e.Policy)
		}
		return code
	}
}

// derived requires that the current keys were derived from a password.
func (c *change) derived() api.Errno {
	if len(c.entry.Keys) == 0 || c.entry.Keys[0].Iterations == 0 {
		return api.ErrState
	}
	return api.OK
}

// follows requires that a key set can follow the current one at a time.
func (c *change) follows(now int) func() api.Errno {
	return func() api.Errno {
		switch keys := c.entry.Keys; {
		case len(keys) > 0 && after(keys[0].Created, now):
			return api.ErrArg
		case c.next() > profile.MaxVersion:
			return api.ErrFull
		}
		return api.OK
	}
}

// next returns the version of the next key set.
func (c *change) next() int {
	if len(c.entry.Keys) == 0 {
		return 1
	}
	return c.entry.Keys[0].Version + 1
}

// matches requires that the old password matches.
func (c *change) matches(old []byte) func() api.Errno {
	return func() api.Errno {
		ok, e := Match(c.entry, old)
		if e == api.OK && !ok {
			e = api.ErrCheck
		}
		return e
	}
}

// due requires that the policy allows a change at a time.
func (c *change) due(now int) func() api.Errno {
	return func() api.Errno {
		if c.entry.Policy == "" || c.entry.Attributes&api.AttrMustChange != 0 {
			return api.OK
		}
		from, _, e := policy.Times(c.policy, c.entry.Keys[0].Created)
		if e == api.OK && after(from, now) {
			e = ErrTooSoon
		}
		return e
	}
}

// good requires that the new password breaks no rule.
func (c *change) good(password []byte) func() api.Errno {
	return func() api.Errno {
		if c.entry.Policy == "" {
			return api.OK
		}
		rule, e := policy.Check(c.policy, c.entry.Name, password)
		if e == api.OK && rule != 0 {
			c.rule, e = rule, ErrRule
		}
		return e
	}
}

// unused requires that the new password is not one of the last ones.
func (c *change) unused(password []byte) func() api.Errno {
	return func() api.Errno {
		if c.policy.History == 0 {
			return api.OK
		}
		digest, e := Digest(c.entry.Name, password)
		last := c.entry.History[:min(c.policy.History, len(c.entry.History))]
		current, _ := Match(c.entry, password)
		if current || slices.ContainsFunc(last, func(d []byte) bool { return bytes.Equal(d, digest) }) {
			e = ErrReused
		}
		return e
	}
}

// remember puts the digest of the old password into the history.
func (c *change) remember(old []byte) func() api.Errno {
	return func() api.Errno {
		digest, e := Digest(c.entry.Name, old)
		history := append([][]byte{digest}, c.entry.History...)
		n := min(c.policy.History, len(history))
		c.entry.History = history[:n:n]
		return e
	}
}

// renew puts the key set of a password in front.
func (c *change) renew(plan Plan, password []byte, now int, must bool) func() api.Errno {
	return func() api.Errno {
		set, e := Derive(plan, c.entry.Name, password, c.next(), now)
		if e != api.OK {
			return e
		}
		expires := 0
		if c.entry.Policy != "" {
			_, expires, e = policy.Times(c.policy, now)
		}
		c.put(set, expires, must)
		return e
	}
}

// put puts a key set in front.
func (c *change) put(set api.KeySet, expires int, must bool) {
	n := min(len(c.entry.Keys), entry.MaxSets-1)
	c.entry.Keys = append([]api.KeySet{set}, c.entry.Keys[:n:n]...)
	c.entry.PasswordExpires = expires
	c.entry.Attributes &^= api.AttrMustChange
	if must {
		c.entry.Attributes |= api.AttrMustChange
	}
}

// store puts the entry into the database.
func (c *change) store() api.Errno { return c.d.Put(c.entry) }

// perform performs the steps of a change, up to the first error.
func (c *change) perform(valid bool, steps ...func() api.Errno) api.Errno {
	e := api.ErrNil
	if c.d.Realm() == "" {
		goto failed
	}
	if e = api.ErrArg; !valid {
		goto failed
	}
	for _, step := range steps {
		if e = step(); e != api.OK {
			goto failed
		}
	}
	return api.OK
failed:
	return e
}

// Change changes a password.
func Change(d *database.Database, p api.Principal, old, new []byte, now int, plan Plan) (api.Rule, api.Errno) {
	c := &change{d: d}
	valid := name.Valid(p) && plan.valid() && short(old, new) && shape.Times(now)
	e := c.perform(valid, c.find(p), c.derived, c.follows(now), c.matches(old), c.due(now), c.good(new), c.unused(new),
		c.remember(old), c.renew(plan, new, now, false), c.store)
	return c.rule, e
}

// Set sets a password.
func Set(d *database.Database, p api.Principal, password []byte, now int, plan Plan, must bool) (api.Rule, api.Errno) {
	c := &change{d: d}
	valid := name.Valid(p) && plan.valid() && short(password) && shape.Times(now)
	e := c.perform(valid, c.find(p), c.follows(now), c.good(password), c.renew(plan, password, now, must), c.store)
	return c.rule, e
}

// SetKeys sets random keys.
func SetKeys(d *database.Database, p api.Principal, keys []api.Key, now int) api.Errno {
	c := &change{d: d}
	var profiles []int
	for _, k := range keys {
		profiles = append(profiles, k.Profile)
	}
	valid := name.Valid(p) && shape.All(keys, profile.Valid) && rising(profiles) && shape.Times(now)
	return c.perform(valid, c.find(p), c.follows(now), func() api.Errno {
		set := api.KeySet{Version: c.next(), Keys: shape.Copies(keys, profile.Copy), Created: now}
		for i := range set.Keys {
			set.Keys[i].Version = set.Version
		}
		c.put(set, 0, false)
		return api.OK
	}, c.store)
}

// Purge removes the key sets that can be purged.
func Purge(d *database.Database, p api.Principal, now, lifetime int) (int, api.Errno) {
	c := &change{d: d}
	n := 0
	e := c.perform(name.Valid(p) && shape.Times(now, lifetime), c.find(p), func() api.Errno {
		for version := range Purgeable(c.entry, now, lifetime) {
			var e api.Errno
			if c.entry, e = entry.Without(c.entry, version); e != api.OK {
				return e
			}
			n++
		}
		return api.OK
	}, c.store)
	if e != api.OK {
		return 0, e
	}
	return n, api.OK
}
