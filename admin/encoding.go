package admin

import (
	"watchword/api"
	"watchword/der"
	"watchword/entry"
	"watchword/name"
	"watchword/policy"
	"watchword/shape"
	"watchword/wire"
)

// The numbers of the applications that requests and replies are.
const (
	requestType = 29
	replyType   = 22
)

// optional returns an element if it is present.
func optional(present bool, element []byte) []byte {
	if !present {
		return nil
	}
	return element
}

// application returns the application with elements, which are tagged from 0 on.
func application(number int, l ...[]byte) []byte {
	for i, e := range l {
		l[i] = der.Tagged(i, e)
	}
	return der.Application(number, der.Sequence(l...))
}

// entryElement returns the element of an entry, which is absent if it is the zero value.
func entryElement(e api.Entry) []byte {
	b, code := entry.Encode(e)
	return optional(code == api.OK, der.Octets(b))
}

// EncodeRequest returns the encoding of a request.
func EncodeRequest(r api.AdminRequest) ([]byte, api.Errno) {
	if !ValidRequest(r) {
		return nil, api.ErrArg
	}
	principal, _ := name.Encode(r.Name)
	rules, code := policy.Text(r.Policy)
	return application(requestType, der.Integer(int(r.Kind)), principal, entryElement(r.Entry),
		optional(len(r.Password) > 0, der.Octets(r.Password)), optional(len(r.Old) > 0, der.Octets(r.Old)),
		optional(r.Must, der.Bool(true)), optional(code == api.OK, der.String(rules)), optional(r.PolicyName != "", der.String(r.PolicyName))), api.OK
}

// EncodeReply returns the encoding of a reply.
func EncodeReply(r api.AdminReply) ([]byte, api.Errno) {
	if !validReply(r) {
		return nil, api.ErrArg
	}
	var names [][]byte
	for _, p := range r.Names {
		b, _ := name.Encode(p)
		names = append(names, b)
	}
	return application(replyType, der.Integer(int(r.Code)), optional(r.Rule != 0, der.Integer(int(r.Rule))), entryElement(r.Entry),
		optional(len(names) > 0, der.Sequence(names...))), api.OK
}

// need returns a value, unless there is an error.
func need[T any](v T, e api.Errno) T {
	if e != api.OK {
		panic(failure(api.ErrFormat))
	}
	return v
}

// decode returns the valid value that a function reads of the sequence in an application.
func decode[T any](b []byte, number int, build func(*der.Reader) T, valid func(T) bool) (v T, e api.Errno) {
	defer func() {
		if _, ok := recover().(failure); ok {
			var none T
			v, e = none, api.ErrFormat
		}
	}()
	r := der.New(b)
	outer := need(r.Application(number))
	s := need(outer.Sequence())
	v = build(s)
	if s.Left() > 0 || outer.Left() > 0 || r.Left() > 0 || !valid(v) {
		panic(failure(api.ErrFormat))
	}
	return v, api.OK
}

// readEntry reads an entry in octets.
func readEntry(r *der.Reader) (api.Entry, api.Errno) {
	b, e := r.Octets()
	if e != api.OK {
		return api.Entry{}, e
	}
	return entry.Decode(b)
}

// readPolicy reads a policy in a string.
func readPolicy(r *der.Reader) (api.Policy, api.Errno) {
	s, e := r.String()
	if e != api.OK {
		return api.Policy{}, e
	}
	return policy.Parse(s)
}

// present reports that a value is never empty if it is present.
func present[T any](T) bool { return false }

// DecodeRequest returns the request with an encoding.
func DecodeRequest(b []byte) (api.AdminRequest, api.Errno) {
	return decode(b, requestType, func(r *der.Reader) api.AdminRequest {
		return api.AdminRequest{
			Kind:       api.AdminKind(need(wire.Field(r, 0, (*der.Reader).Integer))),
			Name:       need(wire.Omitted(r, 1, name.Read, shape.NoName)),
			Entry:      need(wire.Omitted(r, 2, readEntry, present)),
			Password:   need(wire.Omitted(r, 3, (*der.Reader).Octets, wire.List)),
			Old:        need(wire.Omitted(r, 4, (*der.Reader).Octets, wire.List)),
			Must:       need(wire.Omitted(r, 5, (*der.Reader).Bool, func(v bool) bool { return !v })),
			Policy:     need(wire.Omitted(r, 6, readPolicy, present)),
			PolicyName: need(wire.Omitted(r, 7, (*der.Reader).String, wire.Text)),
		}
	}, ValidRequest)
}

// DecodeReply returns the reply with an encoding.
func DecodeReply(b []byte) (api.AdminReply, api.Errno) {
	return decode(b, replyType, func(r *der.Reader) api.AdminReply {
		return api.AdminReply{
			Code:  api.Errno(need(wire.Field(r, 0, (*der.Reader).Integer))),
			Rule:  api.Rule(need(wire.Omitted(r, 1, (*der.Reader).Integer, wire.Number))),
			Entry: need(wire.Omitted(r, 2, readEntry, present)),
			Names: need(wire.Omitted(r, 3, wire.Sequence(name.Read), wire.List)),
		}
	}, validReply)
}
