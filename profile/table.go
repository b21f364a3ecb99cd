package profile

import (
	"watchword/cts"
	"watchword/mac"
)

// lengths are the numbers of bytes of a profile.
type lengths struct{ key, confounder, tag, sum int }

// profile is an encryption profile.
type profile struct {
	lengths
	name    string
	prefix  func() []byte // what precedes a ciphertext in its tag
	encrypt func(key, confounder, plain []byte) []byte
	decrypt func(key, text []byte) []byte
}

// find returns the profile with a number.
func find(number int) (profile, bool) {
	p, ok := map[int]profile{
		1: {
			lengths: lengths{key: 16, confounder: 16, tag: 16, sum: 16},
			name:    "aes128-cts-hmac-sha256-128",
			prefix:  func() []byte { return make([]byte, 16) },
			encrypt: func(key, confounder, plain []byte) []byte {
				b, _ := cts.Encrypt(key, make([]byte, 16), joined(confounder, plain))
				return b
			},
			decrypt: func(key, text []byte) []byte {
				b, _ := cts.Decrypt(key, make([]byte, 16), text)
				return b[16:]
			},
		},
		2: {
			lengths: lengths{key: 32, confounder: 16, tag: 32, sum: 32},
			name:    "stream-hmac-sha256-256",
			prefix:  func() []byte { return nil },
			encrypt: func(key, confounder, plain []byte) []byte {
				return joined(confounder, streamed(key, confounder, plain))
			},
			decrypt: func(key, text []byte) []byte {
				return streamed(key, text[:16:16], text[16:])
			},
		},
	}[number]
	return p, ok
}

// streamed combines a string with the key stream of a confounder.
func streamed(key, confounder, text []byte) []byte {
	result := joined(text)
	var stream [mac.Size]byte
	for i := range result {
		if i%mac.Size == 0 {
			stream, _ = mac.HMAC(key, confounder, number(i/mac.Size+1))
		}
		result[i] ^= stream[i%mac.Size]
	}
	return result
}

// joined returns strings, one after the other.
func joined(strings ...[]byte) []byte {
	var result []byte
	for _, s := range strings {
		result = append(result, s...)
	}
	return result
}

// number returns a number in 4 bytes.
func number(v int) []byte {
	return []byte{byte(v >> 24), byte(v >> 16), byte(v >> 8), byte(v)}
}
