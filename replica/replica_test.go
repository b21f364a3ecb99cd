package replica_test

import (
	"bytes"
	"math/rand"
	"slices"
	"testing"

	"watchword/api"
	"watchword/database"
	"watchword/name"
	"watchword/replica"
	"watchword/update"
)

func rules(name string) api.Policy { return api.Policy{Name: name, Length: 1, Classes: 1} }

// step returns the update with an index.
func step(i int) api.Update {
	return api.Update{Index: i, Term: 1, Time: 5, Kind: api.UpdatePolicy, Policy: rules("p" + string(rune('a'+i%20)))}
}

func log(t *testing.T, n int) *update.Log {
	t.Helper()
	l, e := update.New("R")
	for i := 1; i <= n && e == api.OK; i++ {
		e = l.Append(step(i))
	}
	if e != api.OK {
		t.Fatal(e)
	}
	return l
}

func primary(t *testing.T, n, keep, batch int) *replica.Primary {
	t.Helper()
	p, e := replica.NewPrimary(log(t, n), keep, batch)
	if e != api.OK {
		t.Fatal(e)
	}
	return p
}

func fresh(t *testing.T) *replica.Replica {
	t.Helper()
	r, e := replica.NewReplica("R")
	if e != api.OK {
		t.Fatal(e)
	}
	return r
}

func TestNew(t *testing.T) {
	l := log(t, 2)
	for i, x := range []struct {
		l           *update.Log
		keep, batch int
		want        api.Errno
	}{{nil, -1, 0, api.ErrNil}, {&update.Log{}, 1, 1, api.ErrNil}, {l, -1, 1, api.ErrArg}, {l, 100001, 1, api.ErrArg}, {l, 1, 0, api.ErrArg}, {l, 1, 1001, api.ErrArg}, {l, 0, 1, api.OK}, {l, 100000, 1000, api.OK}} {
		if p, e := replica.NewPrimary(x.l, x.keep, x.batch); e != x.want || (p == nil) != (e != api.OK) {
			t.Error(i, e)
		}
	}
	p, _ := replica.NewPrimary(l, 1, 1)
	l.Append(step(3))
	if p.Log().Len() != 2 {
		t.Error("shared")
	}
	p.Log().Append(step(3))
	if p.Append(step(4)) != api.ErrRange || p.Append(step(3)) != api.OK || p.Log().Len() != 3 || !bytes.Equal(p.Log().Encode(), l.Encode()) {
		t.Error("append")
	}
	for _, realm := range []string{"", "r"} {
		if r, e := replica.NewReplica(realm); r != nil || e != api.ErrArg {
			t.Error(realm, e)
		}
	}
	a := fresh(t).Ask()
	d, _ := log(t, 0).Digest(0)
	if a.Realm != "R" || a.Index != 0 || !bytes.Equal(a.Digest, d) || fresh(t).Database().Len() != 0 {
		t.Error(a)
	}
}

func TestNil(t *testing.T) {
	for _, p := range []*replica.Primary{nil, {}} {
		a, e := p.Answer(replica.Ask{})
		if e != api.ErrNil || a.Kind != 0 || p.Append(api.Update{}) != api.ErrNil || p.Log() != nil || p.Copy() != nil {
			t.Error(e)
		}
	}
	for _, r := range []*replica.Replica{nil, {}} {
		a := r.Ask()
		if r.Take(replica.Answer{}) != api.ErrNil || r.Database() != nil || r.Copy() != nil || a.Realm != "" || a.Index != 0 || len(a.Digest) != 0 {
			t.Error(a)
		}
	}
}

func TestAnswer(t *testing.T) {
	p := primary(t, 6, 4, 3)
	l := p.Log()
	digest := func(i int) []byte {
		d, _ := l.Digest(i)
		return d
	}
	for i, x := range []struct {
		index  int
		digest []byte
		kind   replica.AnswerKind
		last   int
	}{{6, digest(6), replica.AnswerSame, 6}, {6, digest(5), replica.AnswerDump, 6}, {5, digest(5), replica.AnswerUpdates, 6}, {3, digest(3), replica.AnswerUpdates, 6}, {2, digest(2), replica.AnswerUpdates, 5}, {1, digest(1), replica.AnswerDump, 6}, {3, digest(4), replica.AnswerDump, 6}, {7, digest(6), replica.AnswerDump, 6}, {1 << 40, digest(6), replica.AnswerDump, 6}} {
		a, e := p.Answer(replica.Ask{Realm: "R", Index: x.index, Digest: x.digest})
		if e != api.OK || a.Kind != x.kind || a.Index != x.last || !bytes.Equal(a.Digest, digest(x.last)) {
			t.Error(i, a.Kind, a.Index, e)
		}
		if (x.kind == replica.AnswerDump) != bytes.Equal(a.Dump, l.Database().Dump()) {
			t.Error(i, len(a.Dump))
		}
		want := []api.Update{}
		if x.kind == replica.AnswerUpdates {
			for j := x.index + 1; j <= x.last; j++ {
				want = append(want, step(j))
			}
		}
		if !slices.EqualFunc(a.Updates, want, update.Equal) {
			t.Error(i, a.Updates)
		}
	}
	for i, x := range []struct {
		a    replica.Ask
		want api.Errno
	}{{replica.Ask{Realm: "S", Digest: digest(0)}, api.ErrNone}, {replica.Ask{Realm: "r", Digest: digest(0)}, api.ErrArg}, {replica.Ask{Realm: "R", Digest: digest(0)[1:]}, api.ErrArg}, {replica.Ask{Realm: "S", Index: -1, Digest: digest(0)}, api.ErrArg}, {replica.Ask{Realm: "S", Index: 1<<40 + 1, Digest: digest(0)}, api.ErrArg}} {
		if a, e := p.Answer(x.a); e != x.want || a.Kind != 0 {
			t.Error(i, e)
		}
	}
	none := primary(t, 3, 0, 1)
	d, _ := none.Log().Digest(2)
	if a, _ := none.Answer(replica.Ask{Realm: "R", Index: 2, Digest: d}); a.Kind != replica.AnswerDump {
		t.Error(a.Kind)
	}
}

func TestTake(t *testing.T) {
	p, r := primary(t, 3, 2, 1), fresh(t)
	first, _ := p.Answer(r.Ask())
	if first.Kind != replica.AnswerDump || r.Take(first) != api.OK || r.Take(first) != api.OK || !r.Database().Equal(p.Log().Database()) || r.Ask().Index != 3 {
		t.Error(first.Kind)
	}
	same, _ := p.Answer(r.Ask())
	if same.Kind != replica.AnswerSame || r.Take(same) != api.OK {
		t.Error(same.Kind)
	}
	p.Append(step(4))
	p.Append(step(5))
	next, _ := p.Answer(r.Ask())
	good := next
	bad := []struct {
		change func(*replica.Answer)
		want   api.Errno
	}{
		{func(a *replica.Answer) { a.Kind = 4 }, api.ErrArg}, {func(a *replica.Answer) { a.Kind = 0 }, api.ErrArg}, {func(a *replica.Answer) { a.Updates = nil; a.Index = 3; a.Digest = first.Digest }, api.ErrFormat}, {func(a *replica.Answer) { a.Updates = []api.Update{step(5), {}} }, api.ErrFormat}, {func(a *replica.Answer) { a.Updates = []api.Update{step(5)} }, api.ErrState}, {func(a *replica.Answer) { a.Updates = []api.Update{step(4), step(6)} }, api.ErrState}, {func(a *replica.Answer) { a.Updates = []api.Update{step(4), step(4)} }, api.ErrState},
		{func(a *replica.Answer) { a.Index = 5 }, api.ErrCheck}, {func(a *replica.Answer) { a.Digest = first.Digest }, api.ErrCheck}, {func(a *replica.Answer) { a.Digest = nil }, api.ErrCheck}, {func(a *replica.Answer) { a.Updates = []api.Update{step(4), step(5)} }, api.ErrCheck}, {func(a *replica.Answer) { u := step(4); u.Time = 6; a.Updates = []api.Update{u} }, api.ErrCheck},
		{func(a *replica.Answer) {
			u := step(4)
			u.Kind, u.Policy, u.PolicyName = api.UpdateRemovePolicy, api.Policy{}, "zz"
			a.Updates = []api.Update{u}
		}, api.ErrNone},
		{func(a *replica.Answer) { a.Kind = replica.AnswerSame }, api.ErrState}, {func(a *replica.Answer) { a.Kind = replica.AnswerDump }, api.ErrFormat}, {func(a *replica.Answer) { *a = first; a.Index = -1; a.Dump = nil }, api.ErrArg}, {func(a *replica.Answer) { *a = first; a.Index = 1<<40 + 1 }, api.ErrArg}, {func(a *replica.Answer) { *a = first; a.Digest = a.Digest[1:] }, api.ErrArg}, {func(a *replica.Answer) { *a = first; a.Dump = a.Dump[1:] }, api.ErrFormat}, {func(a *replica.Answer) { *a = first; a.Dump = append([]byte{1, 'S'}, make([]byte, 16)...) }, api.ErrFormat}, {func(a *replica.Answer) { *a = same; a.Index = 2 }, api.ErrState}, {func(a *replica.Answer) { *a = same; a.Digest = nil }, api.ErrState},
	}
	for i, x := range bad {
		a := good
		x.change(&a)
		before := r.Database()
		if e := r.Take(a); e != x.want || !r.Database().Equal(before) || r.Ask().Index != 3 {
			t.Error(i, e, x.want)
		}
	}
	if next.Kind != replica.AnswerUpdates || next.Index != 4 || r.Take(next) != api.OK || r.Take(next) != api.ErrState || r.Ask().Index != 4 {
		t.Error(next.Kind, next.Index)
	}
	d, _ := p.Log().Digest(4)
	if !bytes.Equal(r.Ask().Digest, d) {
		t.Error("digest")
	}
}

func TestCopies(t *testing.T) {
	p, r := primary(t, 2, 5, 5), fresh(t)
	q, s := p.Copy(), r.Copy()
	a, _ := p.Answer(r.Ask())
	r.Take(a)
	p.Append(step(3))
	if s.Ask().Index != 0 || r.Ask().Index != 2 || q.Log().Len() != 2 || p.Log().Len() != 3 {
		t.Error("copy")
	}
	r.Database().PutPolicy(rules("x"))
	r.Ask().Digest[0]++
	if s.Take(a) != api.OK || !bytes.Equal(s.Ask().Digest, r.Ask().Digest) || !s.Database().Equal(r.Database()) {
		t.Error("shared")
	}
}

func TestAnyAnswers(t *testing.T) {
	rnd := rand.New(rand.NewSource(1))
	p := primary(t, 0, 5, 2)
	entry := api.Entry{Name: api.Principal{Parts: []string{"a"}, Realm: "R"}}
	if !name.Valid(entry.Name) {
		t.Fatal("name")
	}
	databases := []*database.Database{p.Log().Database()}
	var answers []replica.Answer
	r := fresh(t)
	for range 2000 {
		switch rnd.Intn(6) {
		case 0:
			if p.Log().Len() < 60 {
				p.Append(step(p.Log().Len() + 1))
				databases = append(databases, p.Log().Database())
			}
		case 1, 2:
			a, _ := p.Answer(r.Ask())
			answers = append(answers, a)
		default:
			if len(answers) > 0 {
				r.Take(answers[rnd.Intn(len(answers))])
			}
		}
		i := r.Ask().Index
		d, _ := p.Log().Digest(i)
		if !r.Database().Equal(databases[i]) || !bytes.Equal(d, r.Ask().Digest) {
			t.Fatal(i)
		}
	}
}

func TestRounds(t *testing.T) {
	for _, x := range []struct {
		n, index, batch int
		want            [][2]int
	}{{5, 3, 1, [][2]int{{3, 4}, {4, 5}}}, {5, 0, 2, [][2]int{{0, 2}, {2, 4}, {4, 5}}}, {5, 5, 1, nil}, {5, 6, 1, nil}, {5, -1, 1, nil}, {-1, -2, 1, nil}, {5, 0, 0, nil}, {5, 0, -1, nil}, {1<<63 - 1, 1<<63 - 3, 1<<63 - 1, [][2]int{{1<<63 - 3, 1<<63 - 1}}}} {
		rounds := replica.Rounds(x.n, x.index, x.batch)
		for range 2 {
			var got [][2]int
			for a, b := range rounds {
				got = append(got, [2]int{a, b})
			}
			if !slices.Equal(got, x.want) {
				t.Error(x, got)
			}
		}
		for range rounds {
			break
		}
	}
	p, r := primary(t, 7, 10, 3), fresh(t)
	n := 0
	for range replica.Rounds(7, 0, 3) {
		a, _ := p.Answer(r.Ask())
		if a.Kind != replica.AnswerUpdates || r.Take(a) != api.OK {
			t.Error(a.Kind)
		}
		n++
	}
	if a, _ := p.Answer(r.Ask()); a.Kind != replica.AnswerSame || n != 3 {
		t.Error(a.Kind, n)
	}
}
