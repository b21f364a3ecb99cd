package admin

import (
	"watchword/api"
	"watchword/database"
	"watchword/entry"
	"watchword/name"
	"watchword/password"
	"watchword/policy"
	"watchword/profile"
	"watchword/shape"
)

// job is a request that is performed.
type job struct {
	api.AdminRequest
	server  *Server
	d       *database.Database
	now     int
	reply   api.AdminReply
	updates []api.Update
}

// kind is a kind of requests.
type kind struct {
	right api.Rights
	uses  func(r api.AdminRequest) api.AdminRequest // what the kind uses
	valid func(r api.AdminRequest) bool             // whether that is valid
	do    func(j *job)
}

// named returns a request with its name alone.
func named(r api.AdminRequest) api.AdminRequest { return api.AdminRequest{Kind: r.Kind, Name: r.Name} }

// validName reports whether the name of a request is valid.
func validName(r api.AdminRequest) bool { return name.Valid(r.Name) }

// validEntry reports whether the entry of a request is valid.
func validEntry(r api.AdminRequest) bool {
	e := r.Entry
	return validName(r) && entry.Valid(e) && name.Equal(e.Name, r.Name) && len(e.Keys)+len(e.History) == 0 &&
		e.Master == 0 && e.Fails == 0 && e.LastFail == 0 && e.LastSuccess == 0
}

// word reports whether bytes can be a password.
func word(b []byte) bool { return len(b) >= 1 && len(b) <= MaxPassword }

// kinds returns the kinds of requests.
func kinds() map[api.AdminKind]kind {
	return map[api.AdminKind]kind{
		api.AdminGet:    {api.RightRead, named, validName, (*job).get},
		api.AdminList:   {api.RightRead, named, validName, (*job).list},
		api.AdminDelete: {api.RightDelete, named, validName, (*job).remove},
		api.AdminKeys:   {api.RightPassword, named, validName, (*job).setKeys},
		api.AdminUnlock: {api.RightModify, named, validName, (*job).unlock},
		api.AdminCreate: {
			api.RightCreate,
			func(r api.AdminRequest) api.AdminRequest {
				return api.AdminRequest{Kind: r.Kind, Name: r.Name, Entry: r.Entry, Password: r.Password, Must: r.Must}
			},
			func(r api.AdminRequest) bool {
				return validEntry(r) && (len(r.Password) == 0 && !r.Must || word(r.Password))
			},
			(*job).create,
		},
		api.AdminModify: {
			api.RightModify,
			func(r api.AdminRequest) api.AdminRequest {
				return api.AdminRequest{Kind: r.Kind, Name: r.Name, Entry: r.Entry}
			},
			validEntry,
			(*job).modify,
		},
		api.AdminPassword: {
			api.RightPassword,
			func(r api.AdminRequest) api.AdminRequest {
				return api.AdminRequest{Kind: r.Kind, Name: r.Name, Password: r.Password, Must: r.Must}
			},
			func(r api.AdminRequest) bool { return validName(r) && word(r.Password) },
			(*job).setPassword,
		},
		api.AdminChange: {
			0,
			func(r api.AdminRequest) api.AdminRequest {
				return api.AdminRequest{Kind: r.Kind, Name: r.Name, Password: r.Password, Old: r.Old}
			},
			func(r api.AdminRequest) bool { return validName(r) && word(r.Password) && word(r.Old) },
			(*job).change,
		},
		api.AdminPolicy: {
			api.RightPolicy,
			func(r api.AdminRequest) api.AdminRequest { return api.AdminRequest{Kind: r.Kind, Policy: r.Policy} },
			func(r api.AdminRequest) bool { return policy.Valid(r.Policy) },
			(*job).putPolicy,
		},
		api.AdminRemovePolicy: {
			api.RightPolicy,
			func(r api.AdminRequest) api.AdminRequest {
				return api.AdminRequest{Kind: r.Kind, PolicyName: r.PolicyName}
			},
			func(r api.AdminRequest) bool { return validPolicyName(r.PolicyName) },
			(*job).removePolicy,
		},
	}
}

// validPolicyName reports whether a string can be the name of a policy that is removed.
func validPolicyName(s string) bool {
	for _, c := range []byte(s) {
		if c < 0x21 || c > 0x7e {
			return false
		}
	}
	return len(s) >= 1 && len(s) <= api.MaxName
}

// failure is the error with which a job leaves by a panic.
type failure api.Errno

// require panics with an error, unless it is OK.
func require(e api.Errno) {
	if e != api.OK {
		panic(failure(e))
	}
}

// perform performs a request and returns the code of the reply.
func (j *job) perform(client api.Principal, initial bool, b []byte) (code api.Errno) {
	defer func() {
		if f, ok := recover().(failure); ok {
			code = api.Errno(f)
		}
	}()
	r, e := DecodeRequest(b)
	require(e)
	j.AdminRequest = r
	target := j.Name
	if j.Kind == api.AdminPolicy || j.Kind == api.AdminRemovePolicy {
		target = api.Principal{Parts: []string{"policy"}, Realm: j.d.Realm()}
	}
	if !j.server.Allowed(client, j.Kind, target) || j.Kind == api.AdminChange && !initial {
		require(api.ErrAdmin)
	}
	kinds()[j.Kind].do(j)
	return api.OK
}

// update adds an update.
func (j *job) update(u api.Update) {
	u.Time = j.now
	j.updates = append(j.updates, u)
}

// put adds the update that puts the entry with the name, as it is now.
func (j *job) put() {
	e, code := j.d.Get(j.Name)
	require(code)
	j.update(api.Update{Kind: api.UpdatePut, Entry: e})
}

// find returns the entry with the name.
func (j *job) find() api.Entry {
	e, code := j.d.Get(j.Name)
	if code == api.OK && !name.Equal(e.Name, j.Name) {
		code = api.ErrNone
	}
	require(code)
	return e
}

// get returns an entry.
func (j *job) get() {
	e, code := j.d.Get(j.Name)
	require(code)
	e.Master, e.Keys, e.History = 0, nil, nil
	j.reply.Entry = e
}

// list returns the names that match.
func (j *job) list() {
	for _, e := range j.d.Entries() {
		if Match(j.Name, e.Name) {
			j.reply.Names = append(j.reply.Names, e.Name)
		}
	}
}

// randomKeys sets random keys; they are only taken if that has no error.
func (j *job) randomKeys() {
	g := j.server.random.Copy()
	var keys []api.Key
	for _, number := range j.server.plan.Profiles {
		k, _ := g.Key(number, profile.KeyLen(number))
		keys = append(keys, k)
	}
	require(password.SetKeys(j.d, j.Name, keys, j.now))
	j.server.random = g
}

// set sets the password.
func (j *job) set() {
	rule, e := password.Set(j.d, j.Name, j.Password, j.now, j.server.plan, j.Must)
	j.reply.Rule = rule
	require(e)
}

// create creates an entry.
func (j *job) create() {
	if _, e := j.d.Get(j.Name); e == api.OK {
		require(api.ErrBusy)
	}
	require(j.d.Put(j.Entry))
	if len(j.Password) > 0 {
		j.set()
	} else {
		j.randomKeys()
	}
	j.put()
}

// modify replaces an entry but for what belongs to its keys and its attempts.
func (j *job) modify() {
	old := j.find()
	e := j.Entry
	e.Master, e.Keys, e.History = old.Master, old.Keys, old.History
	e.Fails, e.LastFail, e.LastSuccess = old.Fails, old.LastFail, old.LastSuccess
	require(j.d.Put(e))
	j.put()
}

// remove removes an entry.
func (j *job) remove() {
	require(j.d.Remove(j.Name))
	j.update(api.Update{Kind: api.UpdateRemove, Name: name.Copy(j.Name)})
}

// setPassword sets a password.
func (j *job) setPassword() {
	j.set()
	j.put()
}

// setKeys sets random keys.
func (j *job) setKeys() {
	j.randomKeys()
	j.put()
}

// unlock unlocks an account.
func (j *job) unlock() {
	e := j.find()
	j.update(api.Update{Kind: api.UpdateTouch, Name: e.Name, LastFail: e.LastFail, LastSuccess: e.LastSuccess})
}

// change changes the password of the client.
func (j *job) change() {
	rule, e := password.Change(j.d, j.Name, j.Old, j.Password, j.now, j.server.plan)
	j.reply.Rule = rule
	require(e)
	j.put()
}

// putPolicy puts a policy.
func (j *job) putPolicy() {
	require(j.d.PutPolicy(j.Policy))
	j.update(api.Update{Kind: api.UpdatePolicy, Policy: j.Policy})
}

// removePolicy removes a policy.
func (j *job) removePolicy() {
	require(j.d.RemovePolicy(j.PolicyName))
	j.update(api.Update{Kind: api.UpdateRemovePolicy, PolicyName: j.PolicyName})
}

// equal reports whether two requests are equal.
func equal(a, b api.AdminRequest) bool {
	return a.Kind == b.Kind && name.Equal(a.Name, b.Name) && entry.Equal(a.Entry, b.Entry) && string(a.Password) == string(b.Password) &&
		string(a.Old) == string(b.Old) && a.Must == b.Must && a.Policy == b.Policy && a.PolicyName == b.PolicyName
}

// ValidRequest reports whether a request is valid.
func ValidRequest(r api.AdminRequest) bool {
	k, ok := kinds()[r.Kind]
	return ok && equal(r, k.uses(r)) && k.valid(r)
}

// validReply reports whether a reply is valid.
func validReply(r api.AdminReply) bool {
	none := entry.Equal(r.Entry, api.Entry{})
	return r.Code >= 0 && r.Code <= MaxCode && r.Rule >= 0 && r.Rule <= MaxRule &&
		(none || entry.Valid(r.Entry) && len(r.Entry.Keys) == 0) && len(r.Names) <= database.MaxEntries && shape.All(r.Names, name.Valid)
}
