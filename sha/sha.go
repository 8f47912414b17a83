// Package sha is layer 1: see shared/doc/01-sha.md.
package sha

import "math/bits"

// Size is how many bytes a digest has.
const Size = 32

const (
	words     = 8
	blockSize = 64
	rounds    = 64
	// countSize is how many bytes the number of bits takes, at the end of the last block.
	countSize = 8
)

// start is the state ahead of the first block.
var start = [words]uint32{
	0x6a09e667, 0xbb67ae85, 0x3c6ef372, 0xa54ff53a, 0x510e527f, 0x9b05688c, 0x1f83d9ab, 0x5be0cd19,
}

// factors are the first 32 bits of the fractional parts of the cube roots of the first primes.
var factors = [rounds]uint32{
	0x428a2f98, 0x71374491, 0xb5c0fbcf, 0xe9b5dba5, 0x3956c25b, 0x59f111f1, 0x923f82a4, 0xab1c5ed5,
	0xd807aa98, 0x12835b01, 0x243185be, 0x550c7dc3, 0x72be5d74, 0x80deb1fe, 0x9bdc06a7, 0xc19bf174,
	0xe49b69c1, 0xefbe4786, 0x0fc19dc6, 0x240ca1cc, 0x2de92c6f, 0x4a7484aa, 0x5cb0a9dc, 0x76f988da,
	0x983e5152, 0xa831c66d, 0xb00327c8, 0xbf597fc7, 0xc6e00bf3, 0xd5a79147, 0x06ca6351, 0x14292967,
	0x27b70a85, 0x2e1b2138, 0x4d2c6dfc, 0x53380d13, 0x650a7354, 0x766a0abb, 0x81c2c92e, 0x92722c85,
	0xa2bfe8a1, 0xa81a664b, 0xc24b8b70, 0xc76c51a3, 0xd192e819, 0xd6990624, 0xf40e3585, 0x106aa070,
	0x19a4c116, 0x1e376c08, 0x2748774c, 0x34b0bcb5, 0x391c0cb3, 0x4ed8aa4a, 0x5b9cca4f, 0x682e6ff3,
	0x748f82ee, 0x78a5636f, 0x84c87814, 0x8cc70208, 0x90befffa, 0xa4506ceb, 0xbef9a3f7, 0xc67178f2,
}

// Hash takes bytes, one piece behind the other.
//
// The state counts only once a byte was taken, so that a Hash that is all zero is one that has taken nothing.
type Hash struct {
	state [words]uint32
	block [blockSize]byte
	taken int
}

// New is a hash that has taken nothing.
func New() *Hash { return &Hash{} }

// Reset lets all that was taken go.
func (x *Hash) Reset() {
	if x != nil {
		*x = Hash{}
	}
}

// Write takes bytes behind those taken before.
func (x *Hash) Write(b []byte) {
	if x == nil {
		return
	}
	if x.taken == 0 {
		x.state = start
	}
	for len(b) > 0 {
		n := copy(x.block[x.taken%blockSize:], b)
		x.taken += n
		b = b[n:]
		if x.taken%blockSize == 0 {
			x.mix()
		}
	}
}

// Sum is the digest of all that was taken.
func (x *Hash) Sum() [Size]byte {
	var sum [Size]byte
	if x == nil {
		return sum
	}
	// The padding goes to a copy, so that more bytes may follow here.
	last := *x
	last.Write(padding(x.taken))
	for i := range words {
		putWord(sum[4*i:], last.state[i])
	}
	return sum
}

// Len is how many bytes were taken.
func (x *Hash) Len() int {
	if x == nil {
		return 0
	}
	return x.taken
}

// Of is the digest of pieces that lie behind one another.
func Of(pieces ...[]byte) [Size]byte {
	var x Hash
	for _, p := range pieces {
		x.Write(p)
	}
	return x.Sum()
}

// padding is what goes behind so many bytes, to the end of a block.
func padding(taken int) []byte {
	const least = 1 + countSize
	open := (taken + least) % blockSize
	pad := make([]byte, least+(blockSize-open)%blockSize)
	pad[0] = 0x80
	count := 8 * uint64(taken)
	putWord(pad[len(pad)-countSize:], uint32(count>>32))
	putWord(pad[len(pad)-countSize/2:], uint32(count))
	return pad
}

// mix takes the block into the state.
func (x *Hash) mix() {
	w := x.schedule()
	// Eight variables of their own, as the many rounds are several times slower in an array.
	a, b, c, d, e, f, g, h := x.state[0], x.state[1], x.state[2], x.state[3], x.state[4], x.state[5], x.state[6], x.state[7]
	for i := range rounds {
		t := h + (turn(e, 6) ^ turn(e, 11) ^ turn(e, 25)) + (e&f ^ ^e&g) + factors[i] + w[i]
		u := (turn(a, 2) ^ turn(a, 13) ^ turn(a, 22)) + (a&b ^ a&c ^ b&c)
		a, b, c, d, e, f, g, h = t+u, a, b, c, d+t, e, f, g
	}
	mixed := [words]uint32{a, b, c, d, e, f, g, h}
	for i := range words {
		x.state[i] += mixed[i]
	}
}

// schedule is the block's sixteen numbers, and those that follow from them.
func (x *Hash) schedule() [rounds]uint32 {
	var w [rounds]uint32
	for i := range 16 {
		w[i] = word(x.block[4*i:])
	}
	for i := range rounds - 16 {
		a, b := w[i+1], w[i+14]
		s := turn(a, 7) ^ turn(a, 18) ^ a>>3
		t := turn(b, 17) ^ turn(b, 19) ^ b>>10
		w[i+16] = w[i] + s + w[i+9] + t
	}
	return w
}

// turn turns a number right by n bits.
func turn(x uint32, n int) uint32 { return bits.RotateLeft32(x, -n) }

// word is the number that four bytes make, the highest first.
func word(b []byte) uint32 {
	return uint32(b[0])<<24 | uint32(b[1])<<16 | uint32(b[2])<<8 | uint32(b[3])
}

// putWord lays a number down in four bytes, the highest first.
func putWord(b []byte, x uint32) {
	for i := range 4 {
		b[i] = byte(x >> (24 - 8*i))
	}
}
