package console

import (
	"slices"
	"strconv"
	"strings"

	"watchword/api"
	"watchword/client"
	"watchword/database"
	"watchword/entry"
	"watchword/flags"
	"watchword/keytab"
	"watchword/lockout"
	"watchword/logline"
	"watchword/name"
	"watchword/password"
	"watchword/policy"
	"watchword/service"
)

// The configurations of centres, clients and services.
const (
	skew        = 300
	life        = 36000
	renewLife   = 604800
	replayLimit = 100
	keyBytes    = 16
)

// command is a command.
type command struct{ do func(j *job) []string }

// commands returns the commands, by their first words.
func commands() map[string]command {
	return map[string]command{
		"realm": {(*job).addRealm}, "trust": {(*job).trust}, "allow": {(*job).allow}, "key": {(*job).addKey},
		"user": {(*job).addUser}, "attr": {(*job).setAttribute}, "target": {(*job).addTarget}, "policy": {(*job).putPolicy},
		"use": {(*job).usePolicy}, "passwd": {(*job).changePassword}, "client": {(*job).addClient},
		"service": {(*job).addService}, "time": {(*job).setTime}, "get": {(*job).get}, "renew": {(*job).renew},
		"for": {(*job).forUser}, "proxy": {(*job).proxy}, "call": {(*job).call}, "cache": {(*job).listCache},
		"list": {(*job).list}, "show": {(*job).show}, "log": {(*job).log}, "alarms": {(*job).alarms},
	}
}

// ok is the answer of a command that has nothing to say.
func ok() []string { return []string{"ok"} }

// plan returns the plan of all passwords.
func plan() password.Plan { return password.Plan{Profiles: []int{1}, Iterations: 4} }

// line returns the line of words and numbers.
func line(words ...any) string {
	var l []string
	for _, word := range words {
		switch v := word.(type) {
		case string:
			l = append(l, v)
		case int:
			l = append(l, strconv.Itoa(v))
		}
	}
	return strings.Join(l, " ")
}

// addRealm adds a realm.
func (j *job) addRealm() []string {
	var r realmWord
	j.read(&r)
	j.realms.add(string(r), MaxRealms, func() *realm { return &realm{database: need(database.New(string(r)))} })
	return []string{line("realm", string(r))}
}

// trust adds a pair of realms.
func (j *job) trust() []string {
	var a, b realmWord
	j.read(&a, &b)
	need(0, j.trusts.Trust(string(a), string(b)))
	return ok()
}

// allow adds a rule for transited realms.
func (j *job) allow() []string {
	variables := make([]any, max(len(j.args), 2))
	for i := range variables {
		variables[i] = new(realmWord)
	}
	j.read(variables...)
	need(0, j.policy.Allow(j.args[0], j.args[1], j.args[2:]...))
	return ok()
}

// local returns the database of the realm of a principal.
func (j *job) local(p api.Principal) *database.Database { return j.realms.find(p.Realm).database }

// named returns the entry with a name, and its database.
func (j *job) named(p api.Principal) (*database.Database, api.Entry) {
	d := j.local(p)
	e := need(d.Get(p))
	require(name.Equal(e.Name, p), api.ErrNone)
	return d, e
}

// filled returns the key of profile 1 with equal bytes.
func filled(b byteWord, version versionWord) api.Key {
	return api.Key{Profile: 1, Version: int(version), Bytes: slices.Repeat([]byte{byte(b)}, keyBytes)}
}

// addKey adds a key set to an entry.
func (j *job) addKey() []string {
	var p api.Principal
	var b byteWord
	var version versionWord
	j.read(&p, &b, &version)
	set := api.KeySet{Version: int(version), Keys: []api.Key{filled(b, version)}, Created: j.time}
	d := j.local(p)
	if _, e := d.Get(p); e != api.OK {
		need(0, d.Put(api.Entry{Name: p, Keys: []api.KeySet{set}}))
		return ok()
	}
	_, e := j.named(p)
	need(0, d.Put(need(entry.Add(e, set))))
	return ok()
}

// addUser adds an entry with a password.
func (j *job) addUser() []string {
	var p api.Principal
	var word string
	j.read(&p, &word)
	d := j.local(p)
	_, e := d.Get(p)
	require(e != api.OK, api.ErrBusy)
	set := need(password.Derive(plan(), p, []byte(word), 1, j.time))
	need(0, d.Put(api.Entry{Name: p, Keys: []api.KeySet{set}}))
	return ok()
}

// change changes an entry.
func (j *job) change(p api.Principal, f func(e *api.Entry)) []string {
	d, e := j.named(p)
	f(&e)
	need(0, d.Put(e))
	return ok()
}

// setAttribute sets an attribute.
func (j *job) setAttribute() []string {
	var p api.Principal
	var a attributeWord
	j.read(&p, &a)
	return j.change(p, func(e *api.Entry) { e.Attributes |= api.Attributes(a) })
}

// addTarget adds a target.
func (j *job) addTarget() []string {
	var p, q api.Principal
	j.read(&p, &q)
	return j.change(p, func(e *api.Entry) { e.Targets = append(e.Targets, q) })
}

// usePolicy sets the policy of an entry.
func (j *job) usePolicy() []string {
	var p api.Principal
	var word string
	j.read(&p, &word)
	return j.change(p, func(e *api.Entry) { e.Policy = word })
}

// putPolicy puts a policy.
func (j *job) putPolicy() []string {
	require(len(j.args) >= 1, api.ErrArg)
	text := strings.Join(j.args[1:], " ")
	j.args = j.args[:1]
	var r realmWord
	j.read(&r)
	rules, e := policy.Parse(text)
	require(e == api.OK, api.ErrArg)
	need(0, j.realms.find(string(r)).database.PutPolicy(rules))
	return ok()
}

// changePassword changes a password.
func (j *job) changePassword() []string {
	var p api.Principal
	var old, next string
	j.read(&p, &old, &next)
	d, _ := j.named(p)
	rule, e := password.Change(d, p, []byte(old), []byte(next), j.time, plan())
	if e == password.ErrRule {
		return []string{line("rule", int(rule))}
	}
	need(0, e)
	return ok()
}

// addClient adds a client.
func (j *job) addClient() []string {
	var n partyWord
	var p api.Principal
	var word string
	j.read(&n, &p, &word)
	j.clients.add(string(n), MaxParties, func() *client.Client {
		return need(client.New(api.ClientConfig{
			Client: p, Password: []byte(word), Profiles: []int{1}, Method: api.PreAuthTimestamp, Skew: skew, Life: life, Renew: renewLife,
			Options: api.FlagForwardable | api.FlagRenewable,
		}, []byte(n)))
	})
	return ok()
}

// addService adds a service.
func (j *job) addService() []string {
	var n partyWord
	var p api.Principal
	var b byteWord
	var version versionWord
	j.read(&n, &p, &b, &version)
	j.services.add(string(n), MaxParties, func() *service.Service {
		t := &keytab.Table{}
		need(0, t.Add(api.TableKey{Service: p, Created: j.time, Key: filled(b, version)}))
		return need(service.New(api.ServiceConfig{Service: p, Skew: skew, Limit: replayLimit, Subkeys: true}, t, []byte(n)))
	})
	return ok()
}

// setTime sets the time.
func (j *job) setTime() []string {
	var t int
	j.read(&t)
	require(t >= j.time, api.ErrRange)
	j.time = t
	return ok()
}

// listCache returns the credentials of a client.
func (j *job) listCache() []string {
	var n partyWord
	j.read(&n)
	var l []string
	for _, x := range j.clients.find(string(n)).Cache().Credentials() {
		l = append(l, line(principal(x.Client), principal(x.Service), x.Times.End, need(flags.Text(x.Flags))))
	}
	return l
}

// list returns the names of the entries of a realm.
func (j *job) list() []string {
	var r realmWord
	j.read(&r)
	var l []string
	for _, e := range j.realms.find(string(r)).database.Entries() {
		l = append(l, principal(e.Name))
	}
	return l
}

// show returns the state of an entry.
func (j *job) show() []string {
	var p api.Principal
	j.read(&p)
	d := j.local(p)
	e := need(d.Get(p))
	versions := "-"
	for i, set := range e.Keys {
		if i == 0 {
			versions = strconv.Itoa(set.Version)
			continue
		}
		versions += "," + strconv.Itoa(set.Version)
	}
	state := "open"
	if rules, code := d.Policy(e.Policy); code == api.OK && need(lockout.Locked(e, rules, j.time)) {
		state = "locked"
	}
	return []string{line("attributes", int(e.Attributes), "keys", versions, "fails", e.Fails, state)}
}

// log returns the lines of the facts of a realm.
func (j *job) log() []string {
	var r realmWord
	j.read(&r)
	var l []string
	for _, f := range j.realms.find(string(r)).facts {
		l = append(l, need(logline.Text(f)))
	}
	return l
}

// alarms returns the alarms of the clients of a realm.
func (j *job) alarms() []string {
	var r realmWord
	var window, limit int
	j.read(&r, &window, &limit)
	var l []string
	for _, a := range need(logline.Clients(j.realms.find(string(r)).facts, window, limit)) {
		l = append(l, line(principal(a.Client), a.Count, a.First, a.Last))
	}
	return l
}
