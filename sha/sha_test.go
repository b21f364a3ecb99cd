package sha_test

import (
	"bytes"
	"crypto/sha256"
	"slices"
	"testing"

	"watchword/api"
	"watchword/sha"
)

// text returns n bytes.
func text(n int) []byte {
	b := make([]byte, n)
	for i := range b {
		b[i] = byte(i*7 + i/256)
	}
	return b
}

func TestSum(t *testing.T) {
	for n := range 300 {
		if b := text(n); sha.Sum(b) != sha256.Sum256(b) {
			t.Error(n)
		}
	}
	if b := text(100000); sha.Sum(b) != sha256.Sum256(b) {
		t.Error("long")
	}
	if sha.Sum(nil) != sha256.Sum256(nil) || sha.Sum([]byte("abc")) != sha256.Sum256([]byte("abc")) || sha.Size != 32 {
		t.Error("short")
	}
}

func TestProgress(t *testing.T) {
	for _, step := range []int{0, 1, 3, 31, 63, 64, 65, 130} {
		var h sha.Hash
		all := []byte{}
		for i := range 20 {
			piece := text(step + i%2)
			if e := h.Write(piece); e != api.OK {
				t.Error(e)
			}
			all = append(all, piece...)
			for range 2 {
				if h.Sum() != sha256.Sum256(all) || h.Len() != len(all) {
					t.Error(step, i)
				}
			}
			for j := range piece {
				piece[j] = 0
			}
		}
	}
}

func TestCopy(t *testing.T) {
	for _, n := range []int{0, 10, 64, 100} {
		h := &sha.Hash{}
		h.Write(text(n))
		c := h.Copy()
		h.Write([]byte("left"))
		c.Write([]byte("right, which is longer"))
		if h.Sum() != sha256.Sum256(append(text(n), "left"...)) || c.Sum() != sha256.Sum256(append(text(n), "right, which is longer"...)) || c.Len() != n+22 {
			t.Error(n)
		}
	}
}

func TestNil(t *testing.T) {
	var h *sha.Hash
	if h.Write([]byte{1}) != api.ErrNil || h.Write(nil) != api.ErrNil || h.Sum() != sha256.Sum256(nil) || h.Len() != 0 || h.Copy() != nil {
		t.Error("nil")
	}
	var zero sha.Hash
	if zero.Sum() != sha256.Sum256(nil) || zero.Len() != 0 || zero.Copy() == nil || zero.Copy().Sum() != sha256.Sum256(nil) {
		t.Error("zero")
	}
}

func TestBlocks(t *testing.T) {
	for n, want := range map[int]int{0: 1, 1: 1, 55: 1, 56: 2, 63: 2, 64: 2, 119: 2, 120: 3, 128: 3} {
		b := text(n)
		blocks := sha.Blocks(b)
		clear(b)
		padded := append(append(text(n), 0x80), make([]byte, 64*want-n-9)...)
		padded = append(padded, 0, 0, 0, 0, 0, 0, byte(n*8>>8), byte(n*8))
		for range 2 {
			got := slices.Collect(blocks)
			if len(got) != want || !bytes.Equal(bytes.Join(got, nil), padded) {
				t.Error(n, got)
			}
			for _, block := range got {
				if len(block) != 64 {
					t.Error(n, len(block))
				}
				clear(block)
			}
		}
		for block := range blocks {
			if !bytes.Equal(block, padded[:64]) {
				t.Error(n)
			}
			break
		}
	}
}
