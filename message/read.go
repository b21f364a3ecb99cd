package message

import (
	"watchword/address"
	"watchword/api"
	"watchword/der"
	"watchword/flags"
	"watchword/name"
	"watchword/shape"
	"watchword/ticket"
	"watchword/wire"
)

// reader reads the elements of a message; the first wrong one leaves by a panic.
type reader struct{ *der.Reader }

// wrong is what a reader panics with.
type wrong api.Errno

// need returns a value, unless there is an error.
func need[T any](v T, e api.Errno) T {
	if e != api.OK {
		panic(wrong(e))
	}
	return v
}

// decode returns the valid value that a function reads of an application.
func decode[T any](b []byte, application int, build func(reader) T, valid func(T) bool) (v T, e api.Errno) {
	defer func() {
		if _, ok := recover().(wrong); ok {
			var none T
			v, e = none, api.ErrFormat
		}
	}()
	r := der.New(b)
	outer := need(r.Application(application))
	s := reader{need(outer.Sequence())}
	v = build(s)
	if s.Left() > 0 || outer.Left() > 0 || r.Left() > 0 || !valid(v) {
		panic(wrong(api.ErrFormat))
	}
	return v, api.OK
}

// number reads the tagged element that is a given number.
func (r reader) number(n, want int) {
	if r.integer(n) != want {
		panic(wrong(api.ErrFormat))
	}
}

// integer reads a tagged integer.
func (r reader) integer(n int) int { return need(wire.Field(r.Reader, n, (*der.Reader).Integer)) }

// time reads a tagged time.
func (r reader) time(n int) int { return need(wire.Field(r.Reader, n, (*der.Reader).Time)) }

// optionalTime reads a tagged time that is absent if it is 0.
func (r reader) optionalTime(n int) int {
	return need(wire.Omitted(r.Reader, n, (*der.Reader).Time, wire.Number))
}

// principal reads a tagged principal.
func (r reader) principal(n int) api.Principal { return need(wire.Field(r.Reader, n, name.Read)) }

// optionalPrincipal reads a tagged principal that is absent if it is the zero value.
func (r reader) optionalPrincipal(n int) api.Principal {
	return need(wire.Omitted(r.Reader, n, name.Read, shape.NoName))
}

// flags reads tagged flags.
func (r reader) flags(n int) api.Flags { return need(wire.Field(r.Reader, n, flags.Read)) }

// addresses reads tagged addresses that are absent if there are none.
func (r reader) addresses(n int) []api.Address {
	return need(wire.Omitted(r.Reader, n, address.Read, wire.List))
}

// preAuth reads tagged pre-authentication data that are absent if there are none.
func (r reader) preAuth(n int) []api.PreAuth {
	l := need(wire.Omitted(r.Reader, n, (*der.Reader).Data, wire.List))
	return converted(l, func(d api.Data) api.PreAuth { return api.PreAuth(d) })
}

// body reads the elements of the body of a request.
func (r reader) body() api.Request {
	return api.Request{
		Options:   r.flags(0),
		Client:    r.optionalPrincipal(1),
		Service:   r.principal(2),
		From:      r.optionalTime(3),
		Till:      r.time(4),
		Renew:     r.optionalTime(5),
		Nonce:     r.integer(6),
		Profiles:  need(wire.Field(r.Reader, 7, wire.Sequence((*der.Reader).Integer))),
		Addresses: r.addresses(8),
		Tickets:   need(wire.Omitted(r.Reader, 9, wire.Sequence(ticket.Read), wire.List)),
	}
}

// DecodeRequest returns the request with an encoding.
func DecodeRequest(b []byte) (api.Request, api.Errno) {
	n, e := Type(b)
	kind := api.RequestKind(n)
	if e != api.OK || !known(kind) {
		return api.Request{}, api.ErrFormat
	}
	return decode(b, n, func(r reader) api.Request {
		r.number(1, 5)
		r.number(2, n)
		l := r.preAuth(3)
		body := reader{need(wire.Field(r.Reader, 4, (*der.Reader).Sequence))}
		q := body.body()
		if body.Left() > 0 {
			panic(wrong(api.ErrFormat))
		}
		q.Kind, q.PreAuth = kind, l
		return q
	}, ValidRequest)
}

// DecodeReply returns the reply with an encoding.
func DecodeReply(b []byte) (api.Reply, api.Errno) {
	n, e := Type(b)
	kind := api.RequestKind(n - 1)
	if e != api.OK || !known(kind) {
		return api.Reply{}, api.ErrFormat
	}
	return decode(b, n, func(r reader) api.Reply {
		r.number(0, 5)
		r.number(1, n)
		return api.Reply{
			Kind:    kind,
			PreAuth: r.preAuth(2),
			Client:  r.principal(3),
			Ticket:  need(wire.Field(r.Reader, 4, ticket.Read)),
			Sealed:  need(wire.Field(r.Reader, 5, (*der.Reader).Sealed)),
		}
	}, ValidReply)
}

// DecodePart returns the reply part with an encoding.
func DecodePart(kind api.RequestKind, b []byte) (api.ReplyPart, api.Errno) {
	if !known(kind) {
		return api.ReplyPart{}, api.ErrArg
	}
	return decode(b, partType(kind), func(r reader) api.ReplyPart {
		return api.ReplyPart{
			Session:   need(wire.Field(r.Reader, 0, (*der.Reader).Key)),
			Nonce:     r.integer(1),
			Expires:   r.optionalTime(2),
			Flags:     r.flags(3),
			Times:     api.Times{Auth: r.time(4), Start: r.time(5), End: r.time(6), Renew: r.optionalTime(7)},
			Service:   r.principal(8),
			Addresses: r.addresses(9),
		}
	}, ValidPart)
}

// DecodeFailure returns the error message with an encoding.
func DecodeFailure(b []byte) (api.Failure, api.Errno) {
	return decode(b, failureType, func(r reader) api.Failure {
		r.number(0, 5)
		r.number(1, failureType)
		return api.Failure{
			Time:    r.time(2),
			Micro:   r.integer(3),
			Code:    r.integer(4),
			Client:  r.optionalPrincipal(5),
			Service: r.principal(6),
			Text:    need(wire.Omitted(r.Reader, 7, (*der.Reader).String, wire.Text)),
			Data:    r.preAuth(8),
		}
	}, ValidFailure)
}
