package update

import (
	"iter"
	"slices"

	"watchword/api"
	"watchword/database"
	"watchword/sha"
)

// Log has updates and the database to which they have been applied.
type Log struct {
	updates  []api.Update // never changed but only replaced, so that copies may share them
	digests  [][sha.Size]byte
	database *database.Database // nil in the zero value
}

// New returns a log without updates.
func New(realm string) (*Log, api.Errno) {
	d, e := database.New(realm)
	if e != api.OK {
		return nil, e
	}
	first := sha.Sum([]byte("watchword log\x00" + realm))
	return &Log{digests: [][sha.Size]byte{first}, database: d}, api.OK
}

// usable reports whether this is a log.
func (l *Log) usable() bool { return l != nil && l.database != nil }

// Realm returns the realm.
func (l *Log) Realm() string {
	if !l.usable() {
		return ""
	}
	return l.database.Realm()
}

// Len returns the number of updates.
func (l *Log) Len() int {
	if !l.usable() {
		return 0
	}
	return len(l.updates)
}

// follows reports whether an update follows the log.
func (l *Log) follows(u api.Update) bool {
	n := len(l.updates)
	if u.Index != n+1 {
		return false
	}
	return n == 0 || u.Term >= l.updates[n-1].Term && u.Time >= l.updates[n-1].Time
}

// Append adds an update.
func (l *Log) Append(u api.Update) api.Errno {
	switch {
	case !l.usable():
		return api.ErrNil
	case !Valid(u):
		return api.ErrArg
	case !l.follows(u):
		return api.ErrRange
	case len(l.updates) == MaxUpdates:
		return api.ErrFull
	}
	if e := Apply(l.database, u); e != api.OK {
		return e
	}
	b, _ := Encode(u)
	last := l.digests[len(l.updates)]
	l.updates = append(l.updates, Copy(u))
	l.digests = append(l.digests, sha.Sum(append(last[:], b...)))
	return api.OK
}

// At returns the update with an index.
func (l *Log) At(index int) (api.Update, api.Errno) {
	switch {
	case !l.usable():
		return api.Update{}, api.ErrNil
	case index < 1 || index > len(l.updates):
		return api.Update{}, api.ErrRange
	}
	return Copy(l.updates[index-1]), api.OK
}

// Digest returns the digest with an index.
func (l *Log) Digest(index int) ([]byte, api.Errno) {
	switch {
	case !l.usable():
		return nil, api.ErrNil
	case index < 0 || index > len(l.updates):
		return nil, api.ErrRange
	}
	digest := l.digests[index]
	return digest[:], api.OK
}

// From returns an iterator over the updates from an index on.
func (l *Log) From(index int) iter.Seq2[int, api.Update] {
	var all []api.Update
	if l.usable() {
		start := min(max(index, 1)-1, len(l.updates))
		all = slices.Clone(l.updates[start:])
	}
	return func(yield func(int, api.Update) bool) {
		for _, u := range all {
			if !yield(u.Index, Copy(u)) {
				return
			}
		}
	}
}

// Truncate removes the updates after an index.
func (l *Log) Truncate(n int) api.Errno {
	switch {
	case !l.usable():
		return api.ErrNil
	case n < 0:
		return api.ErrArg
	case n > len(l.updates):
		return api.ErrRange
	}
	d, e := database.New(l.Realm())
	for _, u := range l.updates[:n] {
		if e == api.OK {
			e = Apply(d, u)
		}
	}
	if e == api.OK {
		l.updates, l.digests, l.database = l.updates[:n:n], l.digests[:n+1:n+1], d
	}
	return e
}

// Database returns a copy of the database.
func (l *Log) Database() *database.Database {
	if !l.usable() {
		return nil
	}
	return l.database.Copy()
}

// fixed returns a number in 4 bytes.
func fixed(v int) []byte { return []byte{byte(v >> 24), byte(v >> 16), byte(v >> 8), byte(v)} }

// Encode returns the encoding of a log.
func (l *Log) Encode() []byte {
	if !l.usable() {
		return nil
	}
	b := append([]byte{byte(len(l.Realm()))}, l.Realm()...)
	b = append(b, fixed(len(l.updates))...)
	for _, u := range l.updates {
		x, _ := Encode(u)
		b = append(append(b, fixed(len(x))...), x...)
	}
	last := l.digests[len(l.updates)]
	return append(b, last[:]...)
}

// input is what remains of an encoding.
type input struct{ rest []byte }

// take returns the next bytes, or fewer if there are not enough.
func (i *input) take(n int) []byte {
	n = min(n, len(i.rest))
	head := i.rest[:n]
	i.rest = i.rest[n:]
	return head
}

// number returns the number in the next bytes.
func (i *input) number(n int) int {
	v := 0
	for _, c := range i.take(n) {
		v = v<<8 | int(c)
	}
	return v
}

// Load returns the log with an encoding.
func Load(b []byte) (*Log, api.Errno) {
	i := &input{b}
	l, e := New(string(i.take(i.number(1))))
	if e != api.OK {
		return nil, api.ErrFormat
	}
	for range i.number(4) {
		u, e := Decode(i.take(i.number(4)))
		if e != api.OK || l.Append(u) != api.OK {
			return nil, api.ErrFormat
		}
	}
	// Every log has one encoding only, of which the digest is the end.
	again, n := l.Encode(), len(b)-sha.Size
	switch {
	case len(again) != len(b) || string(again[:n]) != string(b[:n]):
		return nil, api.ErrFormat
	case string(again) != string(b):
		return nil, api.ErrCheck
	}
	return l, api.OK
}

// Copy returns an independent log in the same state.
func (l *Log) Copy() *Log {
	if !l.usable() {
		return nil
	}
	return &Log{slices.Clone(l.updates), slices.Clone(l.digests), l.database.Copy()}
}
