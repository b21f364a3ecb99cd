package console_test

import (
	"slices"
	"strconv"
	"strings"
	"testing"

	"watchword/api"
	"watchword/console"
)

// run checks the answers to a script.
func run(t *testing.T, b *console.Bench, script, want string) {
	t.Helper()
	if got := strings.Join(b.Run(script), "; "); got != want {
		t.Errorf("%s\n got %s\nwant %s", script, got, want)
	}
}

// example returns a bench after the first scripts of the chapter's examples.
func example(t *testing.T) *console.Bench {
	t.Helper()
	b := &console.Bench{}
	run(t, b, "realm R\nkey krbtgt/R@R 1 1\n\nkey s@R 2 1\nuser u@R secret\n", "realm R; ok; ok; ok")
	run(t, b, "client c u@R secret\nservice w s@R 2 1\ncall c w", "ok; ok; error 9")
	return b
}

func TestExample(t *testing.T) {
	b := example(t)
	run(t, b, "time 100\nget c s@R\ncall c w", "ok; done s@R end 36100 flags forwardable,renewable,transited; accepted u@R equal")
	run(t, b, "list R\nshow u@R\nrenew c\nget c x@R", "krbtgt/R@R; s@R; u@R; attributes 0 keys 1 fails 0 open; done krbtgt/R@R end 36100 flags forwardable,renewable,initial,transited; failed 7")
	run(t, b, "cache c", "u@R krbtgt/R@R 36100 forwardable,renewable,initial,transited; u@R s@R 36100 forwardable,renewable,transited")
	run(t, b, "log R", "100.000000 initial u@R krbtgt/R@R host/console 0 0 forwardable,renewable,initial; 100.000000 grant u@R s@R host/console 0 1 forwardable,renewable,transited; 100.000000 grant u@R krbtgt/R@R host/console 0 1 forwardable,renewable,initial,transited; 100.000000 grant u@R x@R host/console 7 0 -")
	run(t, b, "call c w\ncall c w", "accepted u@R equal; accepted u@R equal")
	if b.Time() != 100 {
		t.Error(b.Time())
	}
}

func TestSetup(t *testing.T) {
	b := &console.Bench{}
	run(t, b, "realm A\nrealm B\nrealm A\nrealm C\nrealm D\nrealm E\nrealm e", "realm A; realm B; error 11; realm C; realm D; error 7; error 2")
	run(t, b, "trust A B\ntrust A B\ntrust A A\ntrust A Z\nallow A C B D\nallow A C\nallow A B C C\nallow A\ntrust A b", "ok; error 11; error 2; ok; ok; error 11; error 2; error 2; error 2")
	run(t, b, "key k@A 255 65535\nkey k@A 1 65535\nkey l@A 256 1\nkey l@A 1 0\nkey l@A 1 65536\nkey l@A 01 1\nkey l@Z 1 1\nkey l 1 1\nkey l@A 0 1\nkey l@A 0 2\nshow l@A", "ok; error 11; error 2; error 2; error 2; error 2; error 9; error 2; ok; ok; attributes 0 keys 2,1 fails 0 open")
	run(t, b, "user u@A one\nuser u@A two\nuser u@Z one\nuser k@A x\nshow u@A\nshow none@A\nshow u@Z\nshow u", "ok; error 11; error 9; error 11; attributes 0 keys 1 fails 0 open; error 9; error 9; error 2")
	run(t, b, "attr u@A disabled\nattr u@A mustchange\nattr u@A preauth\nattr u@A other\nattr x@A preauth\nattr x@Z preauth\nshow u@A", "ok; ok; ok; error 2; error 9; error 9; attributes 515 keys 1 fails 0 open")
	run(t, b, "target u@A k@A\ntarget u@A k@A\ntarget x@A k@A\ntarget u@A k", "ok; error 2; error 9; error 2")
	run(t, b, "policy A staff length=4 classes=1 distinct=0 history=1 age=10..0 fails=2 lock=0/50\npolicy A staff\npolicy Z staff length=4 classes=1 distinct=0 history=1 age=10..0 fails=2 lock=0/50\npolicy\nuse u@A staff\nuse u@A none\nuse x@A staff", "ok; error 2; error 9; error 2; ok; error 9; error 9")
	run(t, b, "passwd u@A one two2\npasswd u@A two2 abc\npasswd u@A two2 three\ntime 10\npasswd u@A two2 three\npasswd u@A wrong three\npasswd k@A a b\npasswd x@A a b\npasswd u@A three two2\nshow u@A", "ok; error 280; error 280; ok; ok; error 10; error 8; error 9; error 280; attributes 3 keys 3,2,1 fails 0 open")
	run(t, b, "time 20\npasswd u@A three abc\npasswd u@A three two2", "ok; rule 1; error 282")
	run(t, b, "time 19\ntime 20\ntime x\ntime -1\ntime 020\ntime 1099511627777\ntime 1099511627776", "error 3; ok; error 2; error 2; error 2; error 2; ok")
	d, e := b.Database("A")
	if e != api.OK || d.Len() != 3 {
		t.Error(e)
	}
	d.Remove(api.Principal{Parts: []string{"u"}, Realm: "A"})
	if d, _ = b.Database("A"); d.Len() != 3 {
		t.Error("shared")
	}
	if _, e := b.Database("Z"); e != api.ErrNone {
		t.Error(e)
	}
}

func TestParties(t *testing.T) {
	b := example(t)
	run(t, b, "client c u@R x\nclient C u@R x\nclient "+strings.Repeat("n", 32)+" u@R x\nclient "+strings.Repeat("n", 33)+" u@R x\nclient d u x\nclient e u@R "+strings.Repeat("p", 129), "error 11; error 2; ok; error 2; error 2; error 2")
	for i := range 6 {
		run(t, b, "client x"+strconv.Itoa(i)+" u@R x", "ok")
	}
	run(t, b, "client y u@R x\nclient c u@R x\nservice w s@R 1 1\nservice v s@R 1 0\nservice v s@R 300 1\nservice v- s@R 1 1", "error 7; error 11; error 11; error 2; error 2; ok")
	for i := range 6 {
		run(t, b, "service x"+strconv.Itoa(i)+" u@R 1 1", "ok")
	}
	run(t, b, "service y u@R 1 1\nget none s@R\nget c s\nrenew none\nrenew c\nfor none u@R\nproxy none u@R s@R\nproxy c u@R s@R\ncall none w\ncall c none\ncache none\ncache c\nlist Z\nlog Z\nalarms Z 1 1\nalarms R 1 0\nalarms R x 1", "error 7; error 9; error 2; error 9; error 9; error 9; error 9; error 9; error 9; error 9; error 9; error 9; error 9; error 9; error 2; error 2")
}

func TestLines(t *testing.T) {
	b := example(t)
	before := b.Copy()
	for _, line := range []string{"", " ", "none", "list", "list R R", " list R", "list R ", "list  R", "List R", "list\tR", "time", "time 1 2", "get c", "call c", "show", "realm", "realm R R"} {
		if l, e := b.Do(line); e != api.ErrArg || len(l) != 0 {
			t.Errorf("%q %v", line, e)
		}
	}
	if l, e := b.Do("list R"); e != api.OK || len(l) != 3 {
		t.Error(l, e)
	}
	x, _ := b.Database("R")
	y, _ := before.Database("R")
	if !x.Equal(y) {
		t.Error("changed")
	}
	commands := b.Commands()
	want := "alarms allow attr cache call client for get key list log passwd policy proxy realm renew service show target time trust use user"
	for range 2 {
		if got := strings.Join(slices.Collect(commands), " "); got != want {
			t.Error(got)
		}
	}
	for range commands {
		break
	}
	var none *console.Bench
	_, e := none.Do("list R")
	_, f := none.Database("R")
	if e != api.ErrNil || f != api.ErrNil || len(none.Run("list R")) != 0 || none.Time() != 0 || none.Copy() != nil || len(slices.Collect(none.Commands())) != 23 {
		t.Error(e, f)
	}
}

func TestLockout(t *testing.T) {
	b := example(t)
	run(t, b, "attr u@R preauth\npolicy R p length=1 classes=1 distinct=0 history=0 age=0..0 fails=2 lock=0/50\nuse u@R p\nclient wrong u@R no\ntime 100", "ok; ok; ok; ok; ok")
	run(t, b, "get wrong s@R\nget wrong s@R\nshow u@R\nget c s@R\nalarms R 5 2\nalarms R 5 3\nlog R\ntime 150\nshow u@R\nget c s@R\nshow u@R", "failed 24; failed 24; attributes 2 keys 1 fails 2 locked; failed 18; u@R 2 100 100; 100.000000 initial u@R krbtgt/R@R host/console 25 0 -; 100.000000 initial u@R krbtgt/R@R host/console 24 0 -; 100.000000 initial u@R krbtgt/R@R host/console 25 0 -; 100.000000 initial u@R krbtgt/R@R host/console 24 0 -; 100.000000 initial u@R krbtgt/R@R host/console 18 0 -; ok; attributes 2 keys 1 fails 2 open; done s@R end 36150 flags forwardable,renewable,pre-auth,transited; attributes 2 keys 1 fails 0 open")
}

func TestDelegation(t *testing.T) {
	b := example(t)
	run(t, b, "user web@R pw\nuser db@R pw2\nattr web@R foruser\ntarget web@R db@R\nclient web web@R pw\ntime 7", "ok; ok; ok; ok; ok; ok")
	run(t, b, "proxy web u@R db@R\nfor web u@R\nproxy web u@R db@R\nproxy web u@R s@R\nfor web x@R\ncache web", "error 9; done web@R end 36007 flags forwardable,renewable,transited; done db@R end 36007 flags forwardable,renewable,transited; failed 12; failed 6; u@R db@R 36007 forwardable,renewable,transited; u@R web@R 36007 forwardable,renewable,transited; web@R krbtgt/R@R 36007 forwardable,renewable,initial")
}

func TestRealms(t *testing.T) {
	b := &console.Bench{}
	run(t, b, "realm A\nrealm B\ntrust A B\nkey krbtgt/A@A 1 1\nkey krbtgt/B@A 9 1\nkey krbtgt/B@B 2 1\nkey trusted/A@B 9 1\nkey s@B 5 1\nuser u@A pw\nclient c u@A pw\nservice w s@B 5 1\ntime 5", "realm A; realm B; ok; ok; ok; ok; ok; ok; ok; ok; ok; ok")
	run(t, b, "get c s@B\ncall c w\nlog B", "done s@B end 36005 flags forwardable,renewable,transited; accepted u@A equal; 5.000000 grant u@A s@B host/console 0 1 forwardable,renewable,transited")
	// A realm that does not exist ends the exchange; what was changed before stays.
	run(t, b, "trust A Z\nkey krbtgt/Z@A 8 1\nget c s@Z\ncache c\nget c s@B", "ok; ok; error 9; u@A krbtgt/A@A 36005 forwardable,renewable,initial; u@A krbtgt/B@A 36005 forwardable,renewable,transited; u@A krbtgt/Z@A 36005 forwardable,renewable,transited; u@A s@B 36005 forwardable,renewable,transited; done s@B end 36005 flags forwardable,renewable,transited")
	// A wrong password without pre-authentication is an error of the client.
	run(t, b, "client bad u@A no\nget bad s@B\nget bad s@B\nlog A", "ok; error 10; error 10; 5.000000 initial u@A krbtgt/A@A host/console 0 0 forwardable,renewable,initial; 5.000000 grant u@A s@B host/console 0 1 forwardable,renewable,transited; 5.000000 grant u@A s@Z host/console 0 1 forwardable,renewable,transited; 5.000000 initial u@A krbtgt/A@A host/console 0 0 forwardable,renewable,initial; 5.000000 initial u@A krbtgt/A@A host/console 0 0 forwardable,renewable,initial")
}

func TestCopy(t *testing.T) {
	b := example(t)
	c := b.Copy()
	run(t, b, "time 100\nget c s@R\ntrust R S\nuser v@R x", "ok; done s@R end 36100 flags forwardable,renewable,transited; ok; ok")
	run(t, c, "call c w\ncache c\nlog R\nlist R\ntrust R S", "error 9; krbtgt/R@R; s@R; u@R; ok")
	d := b.Copy()
	for _, x := range []*console.Bench{b, d} {
		run(t, x, "call c w\nget c krbtgt/R@R", "accepted u@R equal; done krbtgt/R@R end 36100 flags forwardable,renewable,initial")
	}
	one, all := example(t), example(t)
	script := "time 3\nget c s@R\nnone\n\nlist R\nlog R"
	var lines []string
	for _, line := range strings.Split(script, "\n") {
		lines = append(lines, one.Run(line)...)
	}
	if !slices.Equal(lines, all.Run(script)) {
		t.Error(lines)
	}
}

func TestFacts(t *testing.T) {
	b := example(t)
	for range console.MaxFacts + 5 {
		b.Do("get c x@R")
	}
	if l, e := b.Do("log R"); e != api.OK || len(l) != console.MaxFacts || strings.Contains(l[0], "initial u@R") {
		t.Error(len(l), e)
	}
}
