// Package hkdf is layer 2: see shared/doc/02-hkdf.md.
package hkdf

import (
	"cresset/sha"
)

const (
	blockSize = 64
	innerMask = 0x36
	outerMask = 0x5c
	// mostDigests is how many digests the byte that counts them can tell apart, beginning with 1.
	mostDigests = 255
)

// Mac is the keyed digest of pieces that lie behind one another.
func Mac(key []byte, pieces ...[]byte) [sha.Size]byte {
	block := keyBlock(key)
	inner := sha.Of(append([][]byte{masked(block, innerMask)}, pieces...)...)
	return sha.Of(masked(block, outerMask), inner[:])
}

// Extract makes a key of what was drawn.
func Extract(salt, drawn []byte) [sha.Size]byte { return Mac(salt, drawn) }

// Expand makes n bytes of a key.
func Expand(key, info []byte, n int) []byte {
	if n < 0 || n > mostDigests*sha.Size {
		return nil
	}
	count := (n + sha.Size - 1) / sha.Size
	out := make([]byte, 0, count*sha.Size)
	for i := range count {
		// The one ahead is what lies at the end of out: nothing, for the first.
		ahead := out[max(0, len(out)-sha.Size):]
		digest := Mac(key, ahead, info, []byte{byte(i + 1)})
		out = append(out, digest[:]...)
	}
	// What was made beyond n is no part of the answer, nor to be had behind its end.
	return out[:n:n]
}

// keyBlock is a key, or the digest of one that is too long, laid into a block.
func keyBlock(key []byte) [blockSize]byte {
	var block [blockSize]byte
	if len(key) > blockSize {
		digest := sha.Of(key)
		key = digest[:]
	}
	copy(block[:], key)
	return block
}

// masked is a block with a byte laid over each of its bytes by exclusive or.
func masked(block [blockSize]byte, mask byte) []byte {
	for i := range blockSize {
		block[i] ^= mask
	}
	return block[:]
}
