package entry

import (
	"watchword/api"
	"watchword/der"
	"watchword/name"
	"watchword/wire"
)

// elements returns the sequence of elements, which are tagged from 0 on.
func elements(l ...[]byte) []byte {
	all := make([][]byte, len(l))
	for i, e := range l {
		all[i] = der.Tagged(i, e)
	}
	return der.Sequence(all...)
}

// number returns the element of an integer that is absent if it is 0.
func number(v int) []byte {
	if v == 0 {
		return nil
	}
	return der.Integer(v)
}

// time returns the element of a time that is absent if it is 0.
func time(t int) []byte {
	if t == 0 {
		return nil
	}
	return der.Time(t)
}

// text returns the element of a string that is absent if it is empty.
func text(s string) []byte {
	if s == "" {
		return nil
	}
	return der.String(s)
}

// list returns the sequence of a list, which is absent if it is empty.
func list[T any](l []T, write func(T) []byte) []byte {
	if len(l) == 0 {
		return nil
	}
	var all [][]byte
	for _, v := range l {
		all = append(all, write(v))
	}
	return der.Sequence(all...)
}

// principal returns the element of a principal.
func principal(p api.Principal) []byte {
	b, _ := name.Encode(p)
	return b
}

// writeSet returns the encoding of a key set.
func writeSet(s api.KeySet) []byte {
	return elements(der.Integer(s.Version), list(s.Keys, der.Key), text(s.Salt), number(s.Iterations), der.Time(s.Created))
}

// Encode returns the encoding of an entry.
func Encode(e api.Entry) ([]byte, api.Errno) {
	if !Valid(e) {
		return nil, api.ErrArg
	}
	return elements(principal(e.Name), list(e.Aliases, principal), der.Bits(uint32(e.Attributes)), number(e.Master),
		list(e.Keys, writeSet), text(e.Policy), time(e.Expires), time(e.PasswordExpires), number(e.MaxLife), number(e.MaxRenew),
		number(e.Fails), time(e.LastFail), time(e.LastSuccess), list(e.Targets, principal), list(e.Delegates, principal),
		list(e.History, der.Octets)), api.OK
}

// reader reads the elements of an entry; the first wrong one leaves by a panic.
type reader struct{ *der.Reader }

// wrong is what a reader panics with.
type wrong api.Errno

// need returns a value, unless there is an error.
func need[T any](v T, e api.Errno) T {
	if e != api.OK {
		panic(wrong(e))
	}
	return v
}

// end panics if there are further bytes.
func (r reader) end() { need(0, r.End()) }

// decode returns the valid value that a function reads of bytes.
func decode[T any](b []byte, build func(reader) T, valid func(T) bool) (v T, e api.Errno) {
	defer func() {
		if _, ok := recover().(wrong); ok {
			var none T
			v, e = none, api.ErrFormat
		}
	}()
	r := reader{der.New(b)}
	v = build(r)
	r.end()
	if !valid(v) {
		panic(wrong(api.ErrFormat))
	}
	return v, api.OK
}

// read reads a list of which there are at most a number of elements.
func read[T any](s reader, limit int, element func(reader) T) []T {
	var l []T
	for s.Left() > 0 {
		if len(l) == limit {
			panic(wrong(api.ErrFormat))
		}
		l = append(l, element(s))
	}
	return l
}

// sequence reads a tagged sequence of values that is absent if there are none.
func sequence[T any](r reader, n int, value func(*der.Reader) (T, api.Errno)) []T {
	return need(wire.Omitted(r.Reader, n, wire.Sequence(value), wire.List))
}

// time reads a tagged time that is absent if it is 0.
func (r reader) time(n int) int {
	return need(wire.Omitted(r.Reader, n, (*der.Reader).Time, wire.Number))
}

// number reads a tagged integer that is absent if it is 0.
func (r reader) number(n int) int {
	return need(wire.Omitted(r.Reader, n, (*der.Reader).Integer, wire.Number))
}

// text reads a tagged string that is absent if it is empty.
func (r reader) text(n int) string {
	return need(wire.Omitted(r.Reader, n, (*der.Reader).String, wire.Text))
}

// set reads a key set.
func (r reader) set() api.KeySet {
	s := reader{need(r.Sequence())}
	v := api.KeySet{
		Version:    need(wire.Field(s.Reader, 0, (*der.Reader).Integer)),
		Keys:       need(wire.Field(s.Reader, 1, wire.Sequence((*der.Reader).Key))),
		Salt:       s.text(2),
		Iterations: s.number(3),
		Created:    need(wire.Field(s.Reader, 4, (*der.Reader).Time)),
	}
	s.end()
	return v
}

// sets reads the tagged key sets, which are absent if there are none.
func (r reader) sets(n int) []api.KeySet {
	s, present, e := wire.Optional(r.Reader, n, (*der.Reader).Sequence)
	need(s, e)
	if !present {
		return nil
	}
	l := read(reader{s}, MaxSets, reader.set)
	if len(l) == 0 {
		panic(wrong(api.ErrFormat))
	}
	return l
}

// entry reads an entry.
func (r reader) entry() api.Entry {
	s := reader{need(r.Sequence())}
	v := api.Entry{
		Name:            need(wire.Field(s.Reader, 0, name.Read)),
		Aliases:         sequence(s, 1, name.Read),
		Attributes:      api.Attributes(need(wire.Field(s.Reader, 2, (*der.Reader).Bits))),
		Master:          s.number(3),
		Keys:            s.sets(4),
		Policy:          s.text(5),
		Expires:         s.time(6),
		PasswordExpires: s.time(7),
		MaxLife:         s.number(8),
		MaxRenew:        s.number(9),
		Fails:           s.number(10),
		LastFail:        s.time(11),
		LastSuccess:     s.time(12),
		Targets:         sequence(s, 13, name.Read),
		Delegates:       sequence(s, 14, name.Read),
		History:         sequence(s, 15, (*der.Reader).Octets),
	}
	s.end()
	return v
}

// Decode returns the entry with an encoding.
func Decode(b []byte) (api.Entry, api.Errno) { return decode(b, reader.entry, Valid) }

// EncodeOffer returns the encoding of an offer.
func EncodeOffer(l []api.Salt) ([]byte, api.Errno) {
	if !validOffer(l) {
		return nil, api.ErrArg
	}
	var all [][]byte
	for _, s := range l {
		all = append(all, elements(der.Integer(s.Profile), der.String(s.Salt), der.Integer(s.Iterations)))
	}
	return der.Sequence(all...), api.OK
}

// salt reads an element of an offer.
func (r reader) salt() api.Salt {
	s := reader{need(r.Sequence())}
	v := api.Salt{
		Profile:    need(wire.Field(s.Reader, 0, (*der.Reader).Integer)),
		Salt:       need(wire.Field(s.Reader, 1, (*der.Reader).String)),
		Iterations: need(wire.Field(s.Reader, 2, (*der.Reader).Integer)),
	}
	s.end()
	return v
}

// DecodeOffer returns the offer with an encoding.
func DecodeOffer(b []byte) ([]api.Salt, api.Errno) {
	return decode(b, func(r reader) []api.Salt { return read(reader{need(r.Sequence())}, MaxKeys, reader.salt) }, validOffer)
}
