package world_test

import (
	"bytes"
	"math/rand"
	"slices"
	"strconv"
	"strings"
	"testing"

	"watchword/api"
	"watchword/failover"
	"watchword/message"
	"watchword/name"
	"watchword/profile"
	"watchword/world"
)

func principal(s string) api.Principal {
	p, e := name.Parse(s)
	if e != api.OK {
		panic(s)
	}
	return p
}

func key(b byte) api.Key {
	return api.Key{Profile: 1, Version: 1, Bytes: bytes.Repeat([]byte{b}, 16)}
}

func keyed(s string, b byte) api.Entry {
	return api.Entry{Name: principal(s), Keys: []api.KeySet{{Version: 1, Keys: []api.Key{key(b)}}}}
}

// config returns the world of the chapter's example, with a delegation and a number of nodes.
func config(nodes int) api.WorldConfig {
	k, _ := profile.FromPassword(1, "secret", "Ru", 4)
	k.Version = 1
	u := api.Entry{Name: principal("u@R"), Attributes: api.AttrPreAuth, Policy: "p", Keys: []api.KeySet{{Version: 1, Keys: []api.Key{k}, Salt: "Ru", Iterations: 4}}}
	k, _ = profile.FromPassword(1, "service", "Rs", 4)
	k.Version = 1
	s := api.Entry{Name: principal("s@R"), Attributes: api.AttrForUser, Targets: []api.Principal{principal("t@R")}, Keys: []api.KeySet{{Version: 1, Keys: []api.Key{k}, Salt: "Rs", Iterations: 4}}}
	party := func(p, password string) api.ClientConfig {
		return api.ClientConfig{Client: principal(p), Password: []byte(password), Profiles: []int{1}, Method: api.PreAuthTimestamp, Skew: 300, Life: 5000, Options: api.FlagForwardable}
	}
	service := func(p string, k api.Key) api.WorldService {
		return api.WorldService{Host: "host-" + p[:1], Config: api.ServiceConfig{Service: principal(p), Skew: 300, Limit: 50}, Keys: []api.TableKey{{Service: principal(p), Key: k}}}
	}
	return api.WorldConfig{
		Start: 1000, Seed: []byte("seed"),
		Realms: []api.WorldRealm{{
			Config: api.CentreConfig{Realm: "R", Skew: 300, Life: 10000, Allowed: api.FlagForwardable}, Nodes: nodes,
			Policies: []api.Policy{{Name: "p", Length: 1, Classes: 1, Fails: 3, Lock: 100}},
			Entries:  []api.Entry{u, s, keyed("krbtgt/R@R", 1), keyed("t@R", 4)},
		}},
		Clients:     []api.WorldClient{{Host: "c", Config: party("u@R", "secret")}, {Host: "d", Config: party("s@R", "service")}, {Host: "wrong", Config: party("u@R", "wrong")}},
		Services:    []api.WorldService{service("s@R", k), service("t@R", key(4))},
		Delegations: []api.Delegation{{By: principal("s@R"), To: principal("t@R")}},
	}
}

func start(t *testing.T, nodes int) *world.World {
	t.Helper()
	w, e := world.New(config(nodes))
	if e != api.OK {
		t.Fatal(e)
	}
	return w
}

func do(t *testing.T, w *world.World, x api.Act) {
	t.Helper()
	if e := w.Do(x); e != api.OK {
		t.Fatal(x.Kind, e)
	}
}

// settle delivers all packets in flight, whose receivers answer, to a node.
func settle(t *testing.T, w *world.World, node int) {
	t.Helper()
	for {
		first := -1
		for id := range w.Network().Flight() {
			first = id
			break
		}
		if first < 0 {
			return
		}
		do(t, w, api.Act{Kind: api.ActDeliver, N: first, Node: node})
	}
}

// pass passes all messages of the realm 0.
func pass(t *testing.T, w *world.World) {
	t.Helper()
	for {
		first := -1
		for n := range w.Letters(0) {
			first = n
			break
		}
		if first < 0 {
			return
		}
		do(t, w, api.Act{Kind: api.ActPass, N: first})
	}
}

func findings(w *world.World) []api.Finding {
	var l []api.Finding
	for _, f := range w.Auditor().Findings() {
		l = append(l, f)
	}
	return l
}

func count(w *world.World) (facts, events int) {
	for range w.Facts() {
		facts++
	}
	return facts, w.Auditor().Len()
}

func goal(s string) api.Goal { return api.Goal{Service: principal(s)} }

func TestExample(t *testing.T) {
	w := start(t, 1)
	do(t, w, api.Act{Kind: api.ActStart, Goal: goal("t@R")})
	for id, p := range w.Network().Flight() {
		if id != 0 || p.From != "c" || p.To != "R/0" {
			t.Error(id, p.From, p.To)
		}
	}
	for i := range 6 {
		do(t, w, api.Act{Kind: api.ActDeliver, N: i})
	}
	if facts, events := count(w); facts != 3 || events != 2 {
		t.Error(facts, events)
	}
	var codes []int
	for i, f := range w.Facts() {
		codes = append(codes, f.Code)
		if i != len(codes)-1 || f.Time != 1000 || f.Micro != 0 || string(f.From.Bytes) != "c" || f.From.Kind != 20 {
			t.Error(f)
		}
	}
	if !slices.Equal(codes, []int{api.CodePreAuthNeeded, 0, 0}) {
		t.Error(codes)
	}
	do(t, w, api.Act{Kind: api.ActAdvance, N: 7})
	do(t, w, api.Act{Kind: api.ActCall, N: 1})
	s, _ := w.Session(0)
	do(t, w, api.Act{Kind: api.ActDeliver, N: 6})
	if _, events := count(w); events != 3 || len(findings(w)) != 0 || w.Time() != 1007 || s.Stream.Profile != 1 {
		t.Error(events, findings(w))
	}
	issue, _ := w.Auditor().Event(1)
	accept, _ := w.Auditor().Event(2)
	if issue.Kind != api.EventIssue || accept.Kind != api.EventAccept || issue.Time != 1000 || accept.Time != 1007 || !bytes.Equal(issue.Session, accept.Session) || len(issue.Session) != 40 || len(accept.Authenticator) != 40 || !name.Equal(accept.Service, principal("t@R")) || !name.Equal(issue.Client, principal("u@R")) {
		t.Error(issue, accept)
	}
	// A mutual call establishes a session with the reply.
	do(t, w, api.Act{Kind: api.ActCall, N: 1, Mutual: true, Subkey: true})
	before, _ := w.Session(0)
	if before.Send != s.Send {
		t.Error("a session without a reply")
	}
	settle(t, w, 0)
	after, _ := w.Session(0)
	if after.Send == s.Send || profile.Equal(after.Stream, s.Stream) || len(findings(w)) != 0 {
		t.Error(after)
	}
}

func TestTouchAndLock(t *testing.T) {
	w := start(t, 3)
	for range 3 {
		do(t, w, api.Act{Kind: api.ActStart, Who: 2, Goal: goal("t@R")})
		settle(t, w, 0)
		pass(t, w)
	}
	var codes []int
	for _, f := range w.Facts() {
		codes = append(codes, f.Code)
	}
	if !slices.Equal(codes, []int{25, 24, 25, 24, 25, 24}) {
		t.Error(codes)
	}
	do(t, w, api.Act{Kind: api.ActBeat})
	pass(t, w)
	for i := range 3 {
		n, _ := w.Node(0, i)
		u, _ := n.Database().Get(principal("u@R"))
		if u.Fails != 3 || u.LastFail != 1000 {
			t.Error(i, u.Fails)
		}
	}
	// Another node refuses the client, too, until the lock ends.
	do(t, w, api.Act{Kind: api.ActStart, Goal: goal("t@R"), Node: 2})
	settle(t, w, 2)
	do(t, w, api.Act{Kind: api.ActAdvance, N: 100})
	do(t, w, api.Act{Kind: api.ActStart, Goal: goal("t@R"), Node: 1})
	settle(t, w, 1)
	var last []api.Fact
	for _, f := range w.Facts() {
		last = append(last, f)
	}
	last = last[6:]
	if len(last) != 4 || last[0].Code != api.CodeClientRevoked || last[3].Code != 0 || len(findings(w)) != 0 {
		t.Error(last)
	}
	c, _ := w.Client(0)
	if _, e := c.Cache().Get(principal("u@R"), principal("t@R")); e != api.OK {
		t.Error(e)
	}
}

func TestDelegation(t *testing.T) {
	w := start(t, 1)
	do(t, w, api.Act{Kind: api.ActStart, Who: 1, Goal: api.Goal{Service: principal("s@R"), User: principal("u@R")}})
	settle(t, w, 0)
	c, _ := w.Client(1)
	x, e := c.Cache().Get(principal("u@R"), principal("s@R"))
	if e != api.OK {
		t.Fatal(e)
	}
	do(t, w, api.Act{Kind: api.ActStart, Who: 1, Goal: api.Goal{Service: principal("t@R"), User: principal("u@R"), Options: api.OptionConstrained, Evidence: x.Ticket}})
	settle(t, w, 0)
	n := w.Auditor().Len()
	d, _ := w.Auditor().Event(n - 1)
	if d.Kind != api.EventDelegate || !name.Equal(d.By, principal("s@R")) || !name.Equal(d.Client, principal("u@R")) || !name.Equal(d.Service, principal("t@R")) || len(findings(w)) != 0 {
		t.Error(d, findings(w))
	}
	do(t, w, api.Act{Kind: api.ActCall, Who: 1, N: 1, User: principal("u@R")})
	settle(t, w, 0)
	if a, _ := w.Auditor().Event(n); a.Kind != api.EventAccept || !name.Equal(a.Client, principal("u@R")) || len(findings(w)) != 0 {
		t.Error(a)
	}
	bad := config(1)
	bad.Delegations = nil
	v, _ := world.New(bad)
	do(t, v, api.Act{Kind: api.ActStart, Who: 1, Goal: api.Goal{Service: principal("s@R"), User: principal("u@R")}})
	settle(t, v, 0)
	c, _ = v.Client(1)
	x, _ = c.Cache().Get(principal("u@R"), principal("s@R"))
	do(t, v, api.Act{Kind: api.ActStart, Who: 1, Goal: api.Goal{Service: principal("t@R"), User: principal("u@R"), Options: api.OptionConstrained, Evidence: x.Ticket}})
	settle(t, v, 0)
	if l := findings(v); len(l) != 1 || l[0].Rule != api.AuditTarget {
		t.Error(l)
	}
}

func TestReplay(t *testing.T) {
	w := start(t, 1)
	do(t, w, api.Act{Kind: api.ActStart, Goal: goal("t@R")})
	settle(t, w, 0)
	do(t, w, api.Act{Kind: api.ActCall, N: 1})
	settle(t, w, 0)
	sent := 0
	for i := range w.Network().History() {
		sent = i
	}
	_, events := count(w)
	for _, x := range []api.Act{{Kind: api.ActReplay, N: sent}, {Kind: api.ActRestart, Who: 1, Keep: true}, {Kind: api.ActReplay, N: sent}, {Kind: api.ActRestart, Who: 1}, {Kind: api.ActReplay, N: sent}} {
		do(t, w, x)
		settle(t, w, 0)
		if _, n := count(w); n != events {
			t.Error(x.Kind, n)
		}
	}
	do(t, w, api.Act{Kind: api.ActCall, N: 1})
	var id int
	for id = range w.Network().Flight() {
	}
	do(t, w, api.Act{Kind: api.ActDuplicate, N: id})
	do(t, w, api.Act{Kind: api.ActAlter, N: id, Node: 40, Mask: 1})
	do(t, w, api.Act{Kind: api.ActRedirect, N: id, Host: "host-s"})
	do(t, w, api.Act{Kind: api.ActDeliver, N: id})
	do(t, w, api.Act{Kind: api.ActDrop, N: id + 1})
	do(t, w, api.Act{Kind: api.ActInject, Packet: api.Packet{From: "x", To: "nobody", Bytes: []byte{1}}})
	do(t, w, api.Act{Kind: api.ActInject, Packet: api.Packet{From: "x", To: "R/0", Bytes: []byte{1}}})
	settle(t, w, 0)
	if len(findings(w)) != 0 {
		t.Error(findings(w))
	}
	var p api.Packet
	for _, p = range w.Network().History() {
	}
	if f, e := message.DecodeFailure(p.Bytes); e != api.OK || f.Code != api.CodeMessage || p.From != "R/0" || p.To != "x" {
		t.Error(f, e)
	}
	further := api.TableKey{Service: principal("t@R"), Key: key(4)}
	if w.Do(api.Act{Kind: api.ActKey, Who: 1, Key: further}) != api.ErrBusy {
		t.Error("key")
	}
	further.Key.Version = 2
	do(t, w, api.Act{Kind: api.ActKey, Who: 1, Key: further})
	if s, _ := w.Service(1); len(s.Table().Lines()) != 2 {
		t.Error("table")
	}
}

func TestNodes(t *testing.T) {
	w := start(t, 3)
	for i := range 3 {
		n, e := w.Node(0, i)
		c, f := w.Centre(0, i)
		if e != api.OK || f != api.OK || n.Acknowledged() != 5 || !c.Database().Equal(n.Database()) || (n.Role() == failover.RolePrimary) != (i == 0) {
			t.Error(i, e, f)
		}
	}
	do(t, w, api.Act{Kind: api.ActElect, Node: 1})
	numbers := func() []int {
		var l []int
		for n, m := range w.Letters(0) {
			l = append(l, n)
			if m.Term == 0 {
				t.Error(m)
			}
		}
		return l
	}
	if !slices.Equal(numbers(), []int{0, 1}) {
		t.Error(numbers())
	}
	do(t, w, api.Act{Kind: api.ActLose, N: 0})
	if w.Do(api.Act{Kind: api.ActPass, N: 0}) != api.ErrNone || w.Do(api.Act{Kind: api.ActLose, N: 9}) != api.ErrNone {
		t.Error("none")
	}
	do(t, w, api.Act{Kind: api.ActPass, N: 1})
	if !slices.Equal(numbers(), []int{2}) {
		t.Error(numbers())
	}
	pass(t, w)
	n, _ := w.Node(0, 1)
	if n.Role() != failover.RolePrimary {
		t.Error(n.Role())
	}
	u := api.Update{Index: 77, Term: 9, Time: 1000, Kind: api.UpdatePut, Entry: keyed("new@R", 9)}
	if w.Do(api.Act{Kind: api.ActOffer, Node: 2, Update: u}) != api.ErrState || w.Do(api.Act{Kind: api.ActBeat, Node: 2}) != api.ErrState || w.Do(api.Act{Kind: api.ActElect, Node: 1}) != api.ErrState {
		t.Error("state")
	}
	do(t, w, api.Act{Kind: api.ActOffer, Node: 1, Update: u})
	pass(t, w)
	do(t, w, api.Act{Kind: api.ActBeat, Node: 1})
	pass(t, w)
	for i := range 3 {
		n, _ := w.Node(0, i)
		if _, e := n.Database().Get(principal("new@R")); e != api.OK {
			t.Error(i, e)
		}
	}
	var e api.Errno
	for i := 0; e == api.OK && i <= world.MaxLetters; i++ {
		e = w.Do(api.Act{Kind: api.ActBeat, Node: 1})
	}
	if e != api.ErrFull || len(numbers()) != world.MaxLetters {
		t.Error(e, len(numbers()))
	}
}

func TestErrors(t *testing.T) {
	w := start(t, 2)
	for i, v := range []struct {
		x    api.Act
		want api.Errno
	}{
		{api.Act{}, api.ErrArg}, {api.Act{Kind: 19}, api.ErrArg}, {api.Act{Kind: api.ActAdvance}, api.OK}, {api.Act{Kind: api.ActAdvance, N: -1}, api.ErrArg}, {api.Act{Kind: api.ActAdvance, N: 1 << 62}, api.ErrRange}, {api.Act{Kind: api.ActAdvance, N: 1<<39 - 999}, api.ErrRange}, {api.Act{Kind: api.ActStart, Who: 3, Goal: goal("t@R")}, api.ErrArg}, {api.Act{Kind: api.ActStart, Who: -1}, api.ErrArg}, {api.Act{Kind: api.ActStart, Node: 10, Goal: goal("t@R")}, api.ErrArg}, {api.Act{Kind: api.ActStart}, api.ErrArg}, {api.Act{Kind: api.ActCancel}, api.ErrState}, {api.Act{Kind: api.ActCancel, Who: 9}, api.ErrArg}, {api.Act{Kind: api.ActCall, N: 2}, api.ErrArg}, {api.Act{Kind: api.ActCall, Who: 5}, api.ErrArg}, {api.Act{Kind: api.ActCall}, api.ErrNone},
		{api.Act{Kind: api.ActDeliver}, api.ErrNone}, {api.Act{Kind: api.ActDeliver, Node: -1}, api.ErrArg}, {api.Act{Kind: api.ActDrop}, api.ErrNone}, {api.Act{Kind: api.ActDuplicate}, api.ErrNone}, {api.Act{Kind: api.ActReplay}, api.ErrNone}, {api.Act{Kind: api.ActRedirect}, api.ErrArg}, {api.Act{Kind: api.ActAlter}, api.ErrArg}, {api.Act{Kind: api.ActInject}, api.ErrArg}, {api.Act{Kind: api.ActElect, Who: 1}, api.ErrArg}, {api.Act{Kind: api.ActElect, Node: 2}, api.ErrArg}, {api.Act{Kind: api.ActBeat, Who: -1}, api.ErrArg}, {api.Act{Kind: api.ActOffer}, api.ErrArg}, {api.Act{Kind: api.ActPass, Who: 1}, api.ErrArg}, {api.Act{Kind: api.ActPass}, api.ErrNone}, {api.Act{Kind: api.ActLose, Who: 1}, api.ErrArg}, {api.Act{Kind: api.ActRestart, Who: 2}, api.ErrArg}, {api.Act{Kind: api.ActKey, Who: 2}, api.ErrArg}, {api.Act{Kind: api.ActKey}, api.ErrArg},
	} {
		if e := w.Do(v.x); e != v.want {
			t.Error(i, e)
		}
	}
	_, e1 := w.Client(3)
	_, e2 := w.Service(-1)
	_, e3 := w.Session(9)
	_, e4 := w.Node(0, 2)
	_, e5 := w.Centre(1, 0)
	for i, e := range []api.Errno{e1, e2, e3, e4, e5} {
		if e != api.ErrArg {
			t.Error(i, e)
		}
	}
	for _, w := range []*world.World{nil, {}} {
		_, e1 := w.Client(0)
		_, e2 := w.Service(0)
		_, e3 := w.Session(0)
		_, e4 := w.Node(0, 0)
		_, e5 := w.Centre(0, 0)
		for i, e := range []api.Errno{e1, e2, e3, e4, e5, w.Do(api.Act{})} {
			if e != api.ErrNil {
				t.Error(i, e)
			}
		}
		if w.Time() != 0 || w.Network() != nil || w.Auditor() != nil || w.Copy() != nil {
			t.Error("nil")
		}
		for range w.Letters(0) {
			t.Error("letters")
		}
		for range w.Facts() {
			t.Error("facts")
		}
	}
	for range w.Letters(-1) {
		t.Error("letters")
	}
	if w.Do(api.Act{Kind: api.ActAdvance, N: 1<<39 - 1000}) != api.OK || w.Time() != 1<<39 {
		t.Error(w.Time())
	}
}

// hosts sets the numbers of clients and services, which have different hosts.
func hosts(clients, services int) func(*api.WorldConfig) {
	return func(c *api.WorldConfig) {
		x, y := c.Clients[0], c.Services[0]
		c.Clients, c.Services = nil, nil
		for i := range clients {
			x.Host = "c" + strconv.Itoa(i)
			c.Clients = append(c.Clients, x)
		}
		for i := range services {
			y.Host = "s" + strconv.Itoa(i)
			c.Services = append(c.Services, y)
		}
	}
}

// TestServices checks that the packets to each service reach it.
func TestServices(t *testing.T) {
	for i, s := range []string{"s@R", "t@R"} {
		w := start(t, 1)
		do(t, w, api.Act{Kind: api.ActStart, Goal: goal(s)})
		settle(t, w, 0)
		_, before := count(w)
		do(t, w, api.Act{Kind: api.ActCall, N: i})
		settle(t, w, 0)
		if _, after := count(w); after != before+1 {
			t.Error(s, before, after)
		}
	}
}

func TestNew(t *testing.T) {
	for i, v := range []struct {
		change func(*api.WorldConfig)
		ok     bool
	}{
		{func(*api.WorldConfig) {}, true}, {func(c *api.WorldConfig) { c.Start = -1 }, false}, {func(c *api.WorldConfig) { c.Start = 1<<38 + 1 }, false}, {func(c *api.WorldConfig) { c.Seed = nil }, false}, {func(c *api.WorldConfig) { c.Seed = make([]byte, 101) }, false}, {func(c *api.WorldConfig) { c.Seed = make([]byte, 100) }, true}, {func(c *api.WorldConfig) { c.Start, c.Seed = 0, []byte{0} }, true}, {func(c *api.WorldConfig) { c.Start = 1 << 38 }, true}, {hosts(8, 2), true}, {hosts(9, 2), false}, {hosts(3, 8), true}, {hosts(3, 9), false}, {func(c *api.WorldConfig) { c.Realms = nil }, false}, {func(c *api.WorldConfig) { c.Realms = append(c.Realms, c.Realms[0]) }, false}, {func(c *api.WorldConfig) { c.Realms[0].Nodes = 4 }, false}, {func(c *api.WorldConfig) { c.Realms[0].Nodes = 0 }, false}, {func(c *api.WorldConfig) { c.Realms[0].Config.Life = 0 }, false}, {func(c *api.WorldConfig) { c.Realms[0].Policies = nil }, false}, {func(c *api.WorldConfig) { c.Realms[0].Config.Realm = "S" }, false},
		{func(c *api.WorldConfig) {
			c.Realms = append(c.Realms, api.WorldRealm{Config: api.CentreConfig{Realm: strings.Repeat("L", 14), Life: 1}, Nodes: 1})
		}, true}, {func(c *api.WorldConfig) {
			c.Realms = append(c.Realms, api.WorldRealm{Config: api.CentreConfig{Realm: strings.Repeat("L", 15), Life: 1}, Nodes: 1})
		}, false},
		{func(c *api.WorldConfig) { c.Trusts = [][2]string{{"R", "S"}} }, true}, {func(c *api.WorldConfig) { c.Trusts = [][2]string{{"R", "R"}} }, false}, {func(c *api.WorldConfig) { c.Rules = [][]string{{"R", "S", "T"}} }, true}, {func(c *api.WorldConfig) { c.Rules = [][]string{{"R"}} }, false}, {func(c *api.WorldConfig) { c.Rules = [][]string{{"R", "S"}} }, true}, {func(c *api.WorldConfig) { c.Rules = [][]string{{"R", "S"}, {"R", "S"}} }, false}, {func(c *api.WorldConfig) { c.Suffixes = [][2]string{{"x.org", "S"}} }, true}, {func(c *api.WorldConfig) { c.Suffixes = [][2]string{{"", "S"}} }, false},
		{func(c *api.WorldConfig) { c.Clients = slices.Repeat(c.Clients, 3) }, false}, {func(c *api.WorldConfig) { c.Clients[0].Host = "host-s" }, false}, {func(c *api.WorldConfig) { c.Clients[0].Host = "R/0" }, false}, {func(c *api.WorldConfig) { c.Clients[0].Host = "R/1" }, true}, {func(c *api.WorldConfig) { c.Clients[0].Host = "" }, false}, {func(c *api.WorldConfig) { c.Clients[0].Host = strings.Repeat("h", 17) }, false}, {func(c *api.WorldConfig) { c.Clients[0].Config.Life = 0 }, false}, {func(c *api.WorldConfig) { c.Clients[0].Offset = -1001 }, false}, {func(c *api.WorldConfig) { c.Clients[0].Rate = 100001 }, false}, {func(c *api.WorldConfig) { c.Services[1].Host = "host-s" }, false}, {func(c *api.WorldConfig) { c.Services[0].Config.Limit = 0 }, false}, {func(c *api.WorldConfig) { c.Services[0].Keys = append(c.Services[0].Keys, c.Services[0].Keys[0]) }, false}, {func(c *api.WorldConfig) { c.Services[0].Offset = 1 << 62 }, false}, {func(c *api.WorldConfig) { c.Delegations = make([]api.Delegation, 1) }, false},
	} {
		c := config(1)
		v.change(&c)
		if w, e := world.New(c); (e == api.OK) != v.ok || !v.ok && (w != nil || e != api.ErrArg) {
			t.Error(i, e)
		}
	}
}

func TestClocks(t *testing.T) {
	c := config(1)
	c.Clients[0].Offset, c.Clients[0].Rate = -1000, -100000
	c.Services[1].Offset = 50
	w, e := world.New(c)
	if e != api.OK {
		t.Fatal(e)
	}
	do(t, w, api.Act{Kind: api.ActAdvance, N: 100})
	do(t, w, api.Act{Kind: api.ActStart, Goal: goal("t@R")})
	var p api.Packet
	for _, p = range w.Network().Flight() {
	}
	r, _ := message.DecodeRequest(p.Bytes)
	if r.Till != 90+5000 {
		t.Error(r.Till)
	}
	settle(t, w, 0)
	var last api.Fact
	for _, last = range w.Facts() {
	}
	if last.Code != api.CodeSkew || last.Time != 1100 {
		t.Error(last)
	}
	late := config(1)
	late.Clients[0].Offset = 1<<40 - 1000
	w, _ = world.New(late)
	do(t, w, api.Act{Kind: api.ActAdvance, N: 1})
	if e := w.Do(api.Act{Kind: api.ActStart, Goal: goal("t@R")}); e != api.ErrRange {
		t.Error(e)
	}
}

func TestRandomSchedules(t *testing.T) {
	for seed := range int64(6) {
		r := rand.New(rand.NewSource(seed))
		w, v := start(t, 3), start(t, 3)
		services := []string{"s@R", "t@R", "krbtgt/R@R", "x@R"}
		for i := range 250 {
			x := api.Act{Kind: api.ActKind(1 + r.Intn(17)), Who: r.Intn(3), N: r.Intn(i/2 + 2), Node: r.Intn(3), Mutual: r.Intn(2) == 0, Subkey: r.Intn(2) == 0, Keep: r.Intn(2) == 0, Host: []string{"c", "host-s", "host-t", "R/0"}[r.Intn(4)], Mask: 1, Goal: goal(services[r.Intn(4)])}
			switch x.Kind {
			case api.ActAdvance:
				x.N %= 40
			case api.ActCall:
				x.N %= 2
			case api.ActAlter, api.ActInject, api.ActOffer:
				x.Kind = api.ActDeliver
			case api.ActElect, api.ActBeat, api.ActPass, api.ActLose:
				x.Who = 0
			}
			before := w.Copy()
			e, f := w.Do(x), v.Do(x)
			if e != f {
				t.Fatal(seed, i, e, f)
			}
			a, b := count(w)
			c, d := count(before)
			if e != api.OK && (a != c || b != d || w.Time() != before.Time()) {
				t.Fatal(seed, i, "changed")
			}
		}
		if l := findings(w); len(l) != 0 {
			t.Error(seed, l)
		}
		for i := range 3 {
			a, _ := w.Node(0, i)
			b, _ := v.Node(0, i)
			if !bytes.Equal(a.Log().Encode(), b.Log().Encode()) {
				t.Error(seed, "different states")
			}
		}
		a, b := w.Network(), v.Network()
		n := 0
		for range a.Events() {
			n++
		}
		for range b.Events() {
			n--
		}
		if n != 0 {
			t.Error(seed, n)
		}
	}
}
