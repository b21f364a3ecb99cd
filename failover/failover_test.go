package failover_test

import (
	"math/rand"
	"slices"
	"testing"

	"watchword/api"
	"watchword/failover"
	"watchword/update"
)

type message = failover.Message

func rules(name string) api.Policy { return api.Policy{Name: name, Length: 1, Classes: 1} }

// offer returns an update that can be offered.
func offer(name string, time int) api.Update {
	return api.Update{Time: time, Kind: api.UpdatePolicy, Policy: rules(name)}
}

func set(t *testing.T, n int) []*failover.Node {
	t.Helper()
	var l []*failover.Node
	for i := range n {
		x, e := failover.New("R", i, n)
		if e != api.OK {
			t.Fatal(e)
		}
		l = append(l, x)
	}
	return l
}

// must returns the messages of a call without an error.
func must(t *testing.T, e api.Errno, l []message) []message {
	t.Helper()
	if e != api.OK {
		t.Fatal(e)
	}
	return l
}

// settle delivers messages until there are none; those for further nodes are lost.
func settle(t *testing.T, nodes []*failover.Node, l []message) {
	t.Helper()
	for len(l) > 0 {
		if l[0].To >= len(nodes) {
			l = l[1:]
			continue
		}
		answers, e := nodes[l[0].To].Receive(l[0])
		if e != api.OK {
			t.Fatal(e)
		}
		l = append(l[1:], answers...)
	}
}

func TestNew(t *testing.T) {
	for i, x := range []struct {
		realm         string
		number, nodes int
		ok            bool
	}{{"R", 0, 1, true}, {"R", 8, 9, true}, {"r", 0, 1, false}, {"R", 1, 1, false}, {"R", -1, 3, false}, {"R", 0, 0, false}, {"R", 0, 10, false}} {
		n, e := failover.New(x.realm, x.number, x.nodes)
		if (e == api.OK) != x.ok || !x.ok && (e != api.ErrArg || n != nil) {
			t.Error(i, e)
		}
		if x.ok && (n.Role() != failover.RoleFollower || n.Term() != 0 || n.Vote() != -1 || n.Primary() != -1 || n.Acknowledged() != 0 || n.Log().Len() != 0 || n.Database().Serial() != 0) {
			t.Error(i, "state")
		}
	}
	for _, n := range []*failover.Node{nil, {}} {
		_, e1 := n.Elect()
		_, _, e2 := n.Offer(api.Update{})
		_, e3 := n.Beat()
		_, e4 := n.Receive(message{})
		if e1 != api.ErrNil || e2 != api.ErrNil || e3 != api.ErrNil || e4 != api.ErrNil || n.Role() != 0 || n.Term() != 0 || n.Vote() != -1 || n.Primary() != -1 || n.Acknowledged() != 0 || n.Log() != nil || n.Database() != nil || n.Copy() != nil {
			t.Error(e1, e2, e3, e4)
		}
		for range n.Updates() {
			t.Error("updates")
		}
	}
}

func TestElection(t *testing.T) {
	l := set(t, 3)
	a, b, c := l[0], l[1], l[2]
	votes, e := a.Elect()
	must(t, e, votes)
	if len(votes) != 2 || votes[0].To != 1 || votes[1].To != 2 || votes[0].Kind != failover.MessageVote || votes[0].Term != 1 || votes[0].Index != 0 || votes[0].LogTerm != 0 || a.Role() != failover.RoleCandidate || a.Vote() != 0 || a.Term() != 1 {
		t.Error(votes)
	}
	voted, e := b.Receive(votes[0])
	must(t, e, voted)
	if len(voted) != 1 || voted[0].Kind != failover.MessageVoted || !voted[0].OK || voted[0].To != 0 || voted[0].From != 1 || b.Vote() != 0 || b.Term() != 1 {
		t.Error(voted)
	}
	again, _ := b.Receive(votes[0])
	if len(again) != 1 || !again[0].OK {
		t.Error("the vote is given again")
	}
	updates, e := a.Receive(voted[0])
	must(t, e, updates)
	if len(updates) != 2 || updates[0].Kind != failover.MessageUpdates || len(updates[0].Updates) != 0 || updates[0].To != 1 || updates[0].Index != 0 || a.Role() != failover.RolePrimary || a.Primary() != 0 {
		t.Error(updates)
	}
	if _, e := a.Elect(); e != api.ErrState {
		t.Error(e)
	}
	taken, _ := b.Receive(updates[0])
	if b.Primary() != 0 || len(taken) != 1 || !taken[0].OK || taken[0].Index != 0 {
		t.Error(taken)
	}
	// c does not know of the election; b refuses it twice.
	first, _ := c.Elect()
	no, _ := b.Receive(first[1])
	if len(no) != 1 || no[0].OK || b.Vote() != 0 {
		t.Error(no)
	}
	index, sent, e := a.Offer(offer("p", 5))
	if index != 1 || len(sent) != 2 || len(sent[0].Updates) != 1 || e != api.OK || a.Acknowledged() != 0 {
		t.Error(index, sent, e)
	}
	ok, _ := b.Receive(sent[0])
	if len(ok) != 1 || ok[0].Kind != failover.MessageTaken || !ok[0].OK || ok[0].Index != 1 {
		t.Error(ok)
	}
	if l, _ := a.Receive(ok[0]); len(l) != 0 || a.Acknowledged() != 1 || b.Acknowledged() != 0 {
		t.Error(l, a.Acknowledged())
	}
	second, _ := c.Elect()
	no, _ = b.Receive(second[1])
	if len(no) != 1 || no[0].OK || no[0].Term != 2 || b.Vote() != -1 || b.Term() != 2 || b.Primary() != -1 {
		t.Error(no, b.Vote())
	}
	beat, _ := a.Beat()
	late, _ := b.Receive(beat[0])
	if len(late) != 1 || late[0].OK || late[0].Index != 0 || late[0].Term != 2 || late[0].Kind != failover.MessageTaken {
		t.Error(late)
	}
	if l, _ := a.Receive(late[0]); len(l) != 0 || a.Role() != failover.RoleFollower || a.Term() != 2 || a.Vote() != -1 {
		t.Error(l)
	}
	if _, e := a.Beat(); e != api.ErrState {
		t.Error(e)
	}
	if _, _, e := a.Offer(offer("q", 5)); e != api.ErrState {
		t.Error(e)
	}
	old, _ := a.Receive(first[0])
	if len(old) != 1 || old[0].OK || old[0].Term != 2 || old[0].Kind != failover.MessageVoted {
		t.Error(old)
	}
	if l, _ := a.Receive(message{Kind: failover.MessageVoted, From: 1, To: 0, Term: 1, OK: true}); len(l) != 0 {
		t.Error(l)
	}
}

func TestSingle(t *testing.T) {
	n := set(t, 1)[0]
	l, e := n.Elect()
	if len(l) != 0 || e != api.OK || n.Role() != failover.RolePrimary {
		t.Error(l, e)
	}
	for i, x := range []struct {
		u    api.Update
		want api.Errno
	}{{offer("p", 5), api.OK}, {offer("q", 4), api.ErrRange}, {api.Update{Index: 2, Time: 5, Kind: api.UpdatePolicy, Policy: rules("p")}, api.ErrArg}, {api.Update{Term: 1, Time: 5, Kind: api.UpdatePolicy, Policy: rules("p")}, api.ErrArg}, {api.Update{}, api.ErrArg}, {api.Update{Time: 5, Kind: api.UpdateRemovePolicy, PolicyName: "x"}, api.ErrNone}} {
		index, l, e := n.Offer(x.u)
		if e != x.want || len(l) != 0 || e == api.OK && index != 1 || e != api.OK && index != 0 || n.Acknowledged() != 1 {
			t.Error(i, index, e)
		}
	}
	if u, _ := n.Log().At(1); u.Term != 1 || u.Index != 1 || n.Database().Serial() != 1 {
		t.Error(u)
	}
	f := set(t, 2)[0]
	if _, _, e := f.Offer(api.Update{}); e != api.ErrArg {
		t.Error(e)
	}
}

func TestInvalidMessages(t *testing.T) {
	n := set(t, 3)[0]
	u := offer("p", 1)
	u.Index, u.Term = 6, 1
	good := message{Kind: failover.MessageUpdates, From: 1, To: 0, Term: 1, Index: 5, LogTerm: 1, Updates: []api.Update{u}}
	for i, change := range []func(*message){func(m *message) { m.Kind = 0 }, func(m *message) { m.Kind = 5 }, func(m *message) { m.To = 1 }, func(m *message) { m.From = 0 }, func(m *message) { m.From = 3 }, func(m *message) { m.From = -1 }, func(m *message) { m.Term = 0 }, func(m *message) { m.Term = 1<<31 + 1 }, func(m *message) { m.Index = -1; m.Updates = nil }, func(m *message) { m.Index = 1<<40 + 1; m.Updates = nil }, func(m *message) { m.Commit = -1 }, func(m *message) { m.Commit = 1<<40 + 1 }, func(m *message) { m.LogTerm = -1 }, func(m *message) { m.LogTerm = 1<<31 + 1 }, func(m *message) { m.Index = 4 }, func(m *message) { m.Updates = make([]api.Update, 1) }, func(m *message) { m.Updates = append(m.Updates, m.Updates[0]) }, func(m *message) {
		m.Updates = nil
		for j := range 65 {
			v := u
			v.Index += j
			m.Updates = append(m.Updates, v)
		}
	}} {
		m := good
		m.Updates = slices.Clone(good.Updates)
		change(&m)
		if l, e := n.Receive(m); e != api.ErrArg || len(l) != 0 || n.Term() != 0 {
			t.Error(i, e)
		}
	}
	l, e := n.Receive(good)
	if e != api.OK || len(l) != 1 || l[0].OK || l[0].Index != 0 || n.Term() != 1 || n.Primary() != 1 {
		t.Error(l, e)
	}
}

// inRoles returns a follower, a candidate and a primary with an update that is not acknowledged, all of the term 2.
func inRoles(t *testing.T) []*failover.Node {
	t.Helper()
	follower := set(t, 3)[0]
	follower.Receive(message{Kind: failover.MessageVoted, From: 1, To: 0, Term: 2})
	candidate := set(t, 3)[0]
	candidate.Elect()
	candidate.Elect()
	primary := candidate.Copy()
	primary.Receive(message{Kind: failover.MessageVoted, From: 1, To: 0, Term: 2, OK: true})
	primary.Offer(offer("a", 5))
	l := []*failover.Node{follower, candidate, primary}
	for i, n := range l {
		if n.Term() != 2 || n.Role() != failover.Role(i+1) {
			t.Fatal(i, n.Term(), n.Role())
		}
	}
	return l
}

// alike reports whether two nodes are in the same state, as far as it is seen from outside.
func alike(a, b *failover.Node) bool {
	sent, _ := a.Copy().Beat()
	other, _ := b.Copy().Beat()
	same := func(x, y message) bool { return x.Index == y.Index && len(x.Updates) == len(y.Updates) }
	return a.Role() == b.Role() && a.Term() == b.Term() && a.Vote() == b.Vote() && a.Primary() == b.Primary() && a.Acknowledged() == b.Acknowledged() && a.Log().Len() == b.Log().Len() && slices.EqualFunc(sent, other, same)
}

// TestFields sends messages with each set of fields: only the fields that a kind has may be set.
func TestFields(t *testing.T) {
	const ok, index, logTerm, commit, updates, end = 1, 2, 4, 8, 16, 32
	has := map[failover.MessageKind]int{
		failover.MessageVote:    index | logTerm,
		failover.MessageVoted:   ok,
		failover.MessageUpdates: index | logTerm | updates | commit,
		failover.MessageTaken:   ok | index,
	}
	build := func(kind failover.MessageKind, term, fields int) message {
		m := message{Kind: kind, From: 2, To: 0, Term: term, OK: fields&ok > 0, Updates: []api.Update{}}
		for field, number := range map[int]*int{index: &m.Index, logTerm: &m.LogTerm, commit: &m.Commit} {
			if fields&field > 0 {
				*number = 1
			}
		}
		if fields&updates > 0 {
			m.Updates = append(m.Updates, at(m.Index+1, 1, "b"))
		}
		return m
	}
	nodes := inRoles(t)
	for kind, own := range has {
		for fields := range end {
			for term := 1; term <= 3; term++ {
				for _, before := range nodes {
					n := before.Copy()
					l, e := n.Receive(build(kind, term, fields))
					if fields&^own == 0 {
						if e != api.OK {
							t.Error(kind, fields, term, before.Role(), e)
						}
					} else if e != api.ErrArg || len(l) != 0 || !alike(n, before) {
						t.Error(kind, fields, term, before.Role(), l, e)
					}
				}
			}
		}
	}
}

func TestFull(t *testing.T) {
	n := set(t, 3)[0]
	n.Receive(message{Kind: failover.MessageVoted, From: 1, To: 0, Term: 1 << 31})
	if l, e := n.Elect(); e != api.ErrFull || len(l) != 0 {
		t.Error(e)
	}
}

// at returns an update with an index and a term.
func at(index, term int, name string) api.Update {
	u := offer(name, 5)
	u.Index, u.Term = index, term
	return u
}

func TestConflicts(t *testing.T) {
	n := set(t, 3)[0]
	send := func(term, index, logTerm, commit int, l ...api.Update) message {
		t.Helper()
		answers, e := n.Receive(message{Kind: failover.MessageUpdates, From: 1, To: 0, Term: term, Index: index, LogTerm: logTerm, Commit: commit, Updates: l})
		if e != api.OK || len(answers) != 1 || answers[0].Kind != failover.MessageTaken {
			t.Fatal(answers, e)
		}
		return answers[0]
	}
	if m := send(1, 0, 0, 9, at(1, 1, "a"), at(2, 1, "b"), at(3, 1, "c")); !m.OK || m.Index != 3 || n.Acknowledged() != 3 {
		t.Error(m, n.Acknowledged())
	}
	if m := send(1, 0, 0, 0, at(1, 1, "a")); !m.OK || m.Index != 1 || n.Log().Len() != 3 || n.Acknowledged() != 3 {
		t.Error(m, n.Log().Len())
	}
	if m := send(2, 3, 1, 3, at(4, 2, "d"), at(5, 2, "e")); !m.OK || m.Index != 5 || n.Acknowledged() != 3 {
		t.Error(m)
	}
	if m := send(3, 4, 2, 3, at(5, 3, "f")); !m.OK || m.Index != 5 || n.Log().Len() != 5 {
		t.Error(m)
	}
	if u, _ := n.Log().At(5); u.Term != 3 || u.Policy.Name != "f" {
		t.Error(u)
	}
	if m := send(3, 4, 3, 9); m.OK || m.Index != 3 || n.Acknowledged() != 3 {
		t.Error(m)
	}
	if m := send(3, 9, 3, 9); m.OK || m.Index != 5 {
		t.Error(m)
	}
	if m := send(4, 2, 1, 9, at(3, 4, "g")); m.OK || m.Index != 1 || n.Log().Len() != 5 {
		t.Error(m, "an acknowledged update")
	}
	if m := send(4, 3, 1, 9, at(4, 4, "h"), api.Update{Index: 5, Term: 4, Time: 4, Kind: api.UpdatePolicy, Policy: rules("i")}); m.OK || m.Index != 2 || n.Log().Len() != 4 || n.Acknowledged() != 3 {
		t.Error(m, n.Log().Len())
	}
	if m := send(4, 4, 4, 2); !m.OK || m.Index != 4 || n.Acknowledged() != 3 {
		t.Error(m)
	}
	if m := send(4, 4, 4, 4); !m.OK || n.Acknowledged() != 4 || n.Database().Serial() != 4 {
		t.Error(m)
	}
	// A candidate with a worse log does not get the vote, one with an equal or a better one does.
	for i, x := range []struct {
		logTerm, index int
		ok             bool
	}{{3, 9, false}, {4, 3, false}, {4, 4, true}, {4, 5, true}, {5, 0, true}} {
		l, _ := n.Receive(message{Kind: failover.MessageVote, From: 2, To: 0, Term: 10 + i, Index: x.index, LogTerm: x.logTerm})
		if len(l) != 1 || l[0].OK != x.ok {
			t.Error(i, l)
		}
	}
}

func TestCatchUp(t *testing.T) {
	l := set(t, 3)
	m, _ := l[0].Elect()
	settle(t, l[:2:2], m[:1])
	for i := range 150 {
		_, m, e := l[0].Offer(offer("p"+string(rune('a'+i%26)), 5))
		must(t, e, m)
		settle(t, l, m[:1])
	}
	if l[0].Acknowledged() != 150 || l[1].Acknowledged() != 149 || l[2].Log().Len() != 0 {
		t.Error(l[0].Acknowledged(), l[1].Acknowledged())
	}
	beat, _ := l[0].Beat()
	if len(beat[1].Updates) != failover.MaxSend {
		t.Error(len(beat[1].Updates))
	}
	settle(t, l, beat)
	if l[2].Log().Len() != 150 {
		t.Error(l[2].Log().Len())
	}
	beat, _ = l[0].Beat()
	settle(t, l, beat)
	if l[2].Acknowledged() != 150 || !l[2].Database().Equal(l[0].Database()) {
		t.Error(l[2].Acknowledged())
	}
	updates := l[2].Updates()
	n := 0
	for i, u := range updates {
		n++
		if i != n || u.Index != n {
			t.Error(i, n)
		}
	}
	for range updates {
		break
	}
	if n != 150 {
		t.Error(n)
	}
	c := l[0].Copy()
	c.Offer(offer("x", 5))
	if l[0].Log().Len() != 150 || c.Log().Len() != 151 || c.Role() != failover.RolePrimary || c.Acknowledged() != 150 {
		t.Error("copy")
	}
}

func TestTaken(t *testing.T) {
	l := set(t, 3)
	m, _ := l[0].Elect()
	settle(t, l, m)
	l[0].Offer(offer("a", 5))
	l[0].Offer(offer("b", 5))
	answer := func(ok bool, index int) []message {
		r, e := l[0].Receive(message{Kind: failover.MessageTaken, From: 2, To: 0, Term: 1, OK: ok, Index: index})
		if e != api.OK {
			t.Fatal(e)
		}
		return r
	}
	if r := answer(true, 1); len(r) != 1 || r[0].Index != 1 || len(r[0].Updates) != 1 || l[0].Acknowledged() != 1 {
		t.Error(r)
	}
	if r := answer(false, 0); len(r) != 1 || r[0].Index != 1 || r[0].LogTerm != 1 || r[0].Commit != 1 {
		t.Error(r)
	}
	if r := answer(true, 1<<40); len(r) != 0 || l[0].Acknowledged() != 2 {
		t.Error(r)
	}
	if r := answer(true, 0); len(r) != 0 || l[0].Acknowledged() != 2 {
		t.Error(r)
	}
	if r, _ := l[1].Receive(message{Kind: failover.MessageTaken, From: 2, To: 1, Term: 1, OK: true, Index: 1}); len(r) != 0 {
		t.Error(r)
	}
	if r, _ := l[0].Receive(message{Kind: failover.MessageUpdates, From: 1, To: 0, Term: 1}); len(r) != 0 || l[0].Role() != failover.RolePrimary {
		t.Error(r)
	}
}

// TestRefused checks from where on updates are sent to a node that lacks earlier ones.
func TestRefused(t *testing.T) {
	l := set(t, 3)
	m, _ := l[0].Elect()
	settle(t, l, m)
	for range 5 {
		l[0].Offer(offer("a", 5))
	}
	l[0].Receive(message{Kind: failover.MessageTaken, From: 1, To: 0, Term: 2})
	l[0].Elect()
	if _, e := l[0].Receive(message{Kind: failover.MessageVoted, From: 1, To: 0, Term: 3, OK: true}); e != api.OK || l[0].Role() != failover.RolePrimary || l[0].Term() != 3 {
		t.Fatal(e)
	}
	for i, x := range []struct {
		ok          bool
		index, want int
	}{{false, 9, 4}, {false, 9, 3}, {false, 2, 2}, {false, 0, 0}, {false, 0, 0}, {true, 2, 2}, {false, 0, 2}} {
		r, e := l[0].Receive(message{Kind: failover.MessageTaken, From: 2, To: 0, Term: 3, OK: x.ok, Index: x.index})
		if e != api.OK || len(r) != 1 || r[0].Index != x.want || len(r[0].Updates) != 5-x.want {
			t.Error(i, r, e)
		}
	}
}

// An update of an earlier term is acknowledged only with one of the own term.
func TestEarlierTerm(t *testing.T) {
	l := set(t, 3)
	m, _ := l[0].Elect()
	settle(t, l, m)
	l[0].Offer(offer("a", 5))
	m, _ = l[0].Beat()
	l[1].Receive(m[0])
	v, _ := l[1].Elect()
	settle(t, l, v)
	if l[1].Role() != failover.RolePrimary || l[1].Term() != 2 || l[1].Acknowledged() != 0 || l[0].Log().Len() != 1 {
		t.Error(l[1].Role(), l[1].Acknowledged())
	}
	_, m, _ = l[1].Offer(offer("b", 5))
	settle(t, l, m)
	if l[1].Acknowledged() != 2 {
		t.Error(l[1].Acknowledged())
	}
}

func TestSchedules(t *testing.T) {
	for seed := range int64(30) {
		r := rand.New(rand.NewSource(seed))
		nodes := set(t, 1+r.Intn(5))
		var flight []message
		primaries := map[int]int{}
		var known []api.Update
		for range 1500 {
			n := nodes[r.Intn(len(nodes))]
			before := n.Copy()
			var out []message
			switch k := r.Intn(40); {
			case k == 0:
				out, _ = n.Elect()
			case k < 4:
				_, out, _ = n.Offer(offer("p"+string(rune('a'+r.Intn(20))), 5))
			case k < 7:
				out, _ = n.Beat()
			case len(flight) > 0:
				i := r.Intn(len(flight))
				n = nodes[flight[i].To]
				before = n.Copy()
				out, _ = n.Receive(flight[i])
				if r.Intn(4) > 0 {
					flight = append(flight[:i], flight[i+1:]...)
				}
			}
			for _, m := range out {
				if r.Intn(5) > 0 {
					flight = append(flight, m)
				}
			}
			if len(flight) > 60 {
				flight = flight[30:]
			}
			for i, x := range nodes {
				if x.Role() == failover.RolePrimary {
					if other, ok := primaries[x.Term()]; ok && other != i {
						t.Fatal("two primaries", seed)
					}
					primaries[x.Term()] = i
				}
			}
			if n.Acknowledged() < before.Acknowledged() {
				t.Fatal("acknowledged", seed)
			}
			for i, u := range n.Updates() {
				if i <= len(known) && !update.Equal(known[i-1], u) {
					t.Fatal("changed", seed, i)
				}
				if i > len(known) {
					known = append(known, u)
				}
			}
		}
	}
}
