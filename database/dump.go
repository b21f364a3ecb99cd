package database

import (
	"bytes"

	"watchword/api"
	"watchword/entry"
	"watchword/policy"
)

// fixed returns a number in n bytes.
func fixed(v, n int) []byte {
	b := make([]byte, n)
	for i := range b {
		b[i] = byte(v >> (8 * (n - 1 - i)))
	}
	return b
}

// Dump returns the dump.
func (d *Database) Dump() []byte {
	if !d.usable() {
		return nil
	}
	b := append([]byte{byte(len(d.realm))}, d.realm...)
	b = append(b, fixed(d.serial, 8)...)
	b = append(b, fixed(len(d.policies), 4)...)
	for _, p := range d.Policies() {
		s, _ := policy.Text(p)
		b = append(append(b, fixed(len(s), 4)...), s...)
	}
	b = append(b, fixed(len(d.entries), 4)...)
	for _, e := range ordered(d.entries, byName) {
		x, _ := entry.Encode(e)
		b = append(append(b, fixed(len(x), 4)...), x...)
	}
	return b
}

// Load returns the database with a dump.
func Load(b []byte) (*Database, api.Errno) {
	rest, short := b, false
	take := func(n int) []byte {
		if n > len(rest) {
			rest, short, n = nil, true, 0
		}
		head := rest[:n:n]
		rest = rest[n:]
		return head
	}
	number := func(n int) int {
		v := 0
		for _, c := range take(n) {
			v = v<<8 | int(c)
		}
		return v
	}
	var serial int
	d, e := New(string(take(number(1))))
	if e != api.OK {
		goto invalid
	}
	serial = number(8)
	for range number(4) {
		p, e := policy.Parse(string(take(number(4))))
		if e != api.OK || d.PutPolicy(p) != api.OK {
			goto invalid
		}
	}
	for range number(4) {
		x, e := entry.Decode(take(number(4)))
		if e != api.OK || d.Put(x) != api.OK {
			goto invalid
		}
	}
	// Another order of entries, for instance, gives another dump.
	d.serial = serial
	if short || serial < 0 || serial >= endSerial || !bytes.Equal(d.Dump(), b) {
		goto invalid
	}
	return d, api.OK
invalid:
	return nil, api.ErrFormat
}
