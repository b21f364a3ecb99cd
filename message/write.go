package message

import (
	"watchword/address"
	"watchword/api"
	"watchword/der"
	"watchword/name"
	"watchword/ticket"
)

// message returns the application with elements, which are tagged from a number on.
func message(application, first int, elements ...[]byte) []byte {
	return der.Application(application, tagged(first, elements...))
}

// tagged returns the sequence of elements, which are tagged from a number on.
func tagged(first int, elements ...[]byte) []byte {
	l := make([][]byte, len(elements))
	for i, e := range elements {
		l[i] = der.Tagged(first+i, e)
	}
	return der.Sequence(l...)
}

// optional returns the element that a function writes, if it is present.
func optional(present bool, write func() []byte) []byte {
	if !present {
		return nil
	}
	return write()
}

// time returns the element of a time that is absent if it is 0.
func time(t int) []byte {
	return optional(t != 0, func() []byte { return der.Time(t) })
}

// list returns the sequence of the elements that a function writes of a list.
func list[T any](l []T, write func(T) []byte) []byte {
	return der.Sequence(converted(l, write)...)
}

// principal returns the element of a principal.
func principal(p api.Principal) []byte {
	b, _ := name.Encode(p)
	return b
}

// preAuth returns the element of pre-authentication data, which is absent if there are none.
func preAuth(l []api.PreAuth) []byte {
	return optional(len(l) > 0, func() []byte { return der.Data(data(l)) })
}

// addresses returns the element of addresses, which is absent if there are none.
func addresses(l []api.Address) []byte {
	return optional(len(l) > 0, func() []byte {
		b, _ := address.Encode(l)
		return b
	})
}

// one returns the element of a ticket.
func one(t api.Ticket) []byte {
	b, _ := ticket.Encode(t)
	return b
}

// writeBody returns the body of a request.
func writeBody(r api.Request) []byte {
	tickets := func() []byte { return list(r.Tickets, one) }
	return tagged(0, der.Bits(uint32(r.Options)), principal(r.Client), principal(r.Service), time(r.From), der.Time(r.Till), time(r.Renew),
		der.Integer(r.Nonce), list(r.Profiles, der.Integer), addresses(r.Addresses), optional(len(r.Tickets) > 0, tickets))
}

// writeRequest returns the encoding of a request.
func writeRequest(r api.Request) []byte {
	return message(int(r.Kind), 1, der.Integer(5), der.Integer(int(r.Kind)), preAuth(r.PreAuth), writeBody(r))
}

// writeReply returns the encoding of a reply.
func writeReply(r api.Reply) []byte {
	kind := int(r.Kind) + 1
	return message(kind, 0, der.Integer(5), der.Integer(kind), preAuth(r.PreAuth), principal(r.Client), one(r.Ticket), der.Sealed(r.Sealed))
}

// partType returns the application of a reply part.
func partType(kind api.RequestKind) int {
	if kind == api.RequestGrant {
		return grantPart
	}
	return int(kind) + partOffset
}

// writePart returns the encoding of a reply part.
func writePart(kind api.RequestKind, p api.ReplyPart) []byte {
	return message(partType(kind), 0, der.Key(p.Session), der.Integer(p.Nonce), time(p.Expires), der.Bits(uint32(p.Flags)),
		der.Time(p.Times.Auth), der.Time(p.Times.Start), der.Time(p.Times.End), time(p.Times.Renew), principal(p.Service), addresses(p.Addresses))
}

// writeFailure returns the encoding of an error message.
func writeFailure(f api.Failure) []byte {
	text := func() []byte { return der.String(f.Text) }
	return message(failureType, 0, der.Integer(5), der.Integer(failureType), der.Time(f.Time), der.Integer(f.Micro), der.Integer(f.Code),
		principal(f.Client), principal(f.Service), optional(f.Text != "", text), preAuth(f.Data))
}
