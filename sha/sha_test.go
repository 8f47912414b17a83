package sha_test

import (
	"bytes"
	"crypto/sha256"
	"encoding/hex"
	"strings"
	"testing"

	"cresset/sha"
)

// counted is n bytes of which neighbours differ.
func counted(n int) []byte {
	b := make([]byte, n)
	for i := range b {
		b[i] = byte(i*7 + i>>8)
	}
	return b
}

// P1.1: the digests that FIPS 180-4 and its examples name.
func TestOfKnown(t *testing.T) {
	for _, x := range []struct{ in, want string }{
		{"", "e3b0c44298fc1c149afbf4c8996fb92427ae41e4649b934ca495991b7852b855"},
		{"abc", "ba7816bf8f01cfea414140de5dae2223b00361a396177a9cb410ff61f20015ad"},
		{"abcdbcdecdefdefgefghfghighijhijkijkljklmklmnlmnomnopnopq", "248d6a61d20638b8e5c026930c3e6039a33ce45964ff2167f6ecedd419db06c1"},
		{"abcdefghbcdefghicdefghijdefghijkefghijklfghijklmghijklmnhijklmnoijklmnopjklmnopqklmnopqrlmnopqrsmnopqrstnopqrstu", "cf5b16a778af8380036ce59e7b0492370b249b11e8f07a51afac45037afee9d1"},
		{strings.Repeat("a", 1000000), "cdc76e5c9914fb9281a1c7e284d73e67f1809a48a497200e046d39ccc7112cd0"},
	} {
		got := sha.Of([]byte(x.in))
		if hex.EncodeToString(got[:]) != x.want {
			t.Errorf("Of %d bytes: %x, not %s", len(x.in), got, x.want)
		}
	}
}

// P1.1: every length about the edges of a block and of its padding.
func TestOfLengths(t *testing.T) {
	all := counted(400)
	for n := range len(all) + 1 {
		if got, want := sha.Of(all[:n]), sha256.Sum256(all[:n]); got != want {
			t.Errorf("Of %d bytes: %x, not %x", n, got, want)
		}
	}
}

// P1.1: all bytes that are the same, as the highest bits tell most of the sums' wrap-round.
func TestOfSameBytes(t *testing.T) {
	for _, c := range []byte{0, 1, 0x7f, 0x80, 0xff} {
		for _, n := range []int{1, 55, 56, 63, 64, 65, 119, 120, 128, 1000} {
			b := bytes.Repeat([]byte{c}, n)
			if got, want := sha.Of(b), sha256.Sum256(b); got != want {
				t.Errorf("Of %d times %x: %x, not %x", n, c, got, want)
			}
		}
	}
}

// P1.1: pieces lie one behind the other, wherever they are cut.
func TestOfPieces(t *testing.T) {
	all := counted(150)
	want := sha256.Sum256(all)
	for i := range len(all) + 1 {
		for _, j := range []int{i, (i + len(all)) / 2, len(all)} {
			if got := sha.Of(all[:i], all[i:j], all[j:]); got != want {
				t.Errorf("Of pieces cut at %d and %d: %x, not %x", i, j, got, want)
			}
		}
	}
	var each [][]byte
	for i := range all {
		each = append(each, all[i:i+1], nil, []byte{})
	}
	if got := sha.Of(each...); got != want {
		t.Errorf("Of single bytes: %x, not %x", got, want)
	}
	if sha.Of(all[:3], all[3:6]) == sha.Of(all[3:6], all[:3]) {
		t.Error("the pieces' order makes no difference")
	}
}

// P1.1: no pieces, nil and empty ones are one.
func TestOfNothing(t *testing.T) {
	want := sha256.Sum256(nil)
	if sha.Of() != want || sha.Of(nil) != want || sha.Of([]byte{}, nil) != want || sha.Of([][]byte{}...) != want {
		t.Error("Of nothing")
	}
}

// P1.1, P1.2: what is handed in is not changed, the room behind its end included.
func TestArgumentsStay(t *testing.T) {
	all := counted(200)
	kept := bytes.Clone(all)
	sha.Of(all[:70], all[70:130])
	x := sha.New()
	x.Write(all[:130])
	x.Sum()
	x.Reset()
	if !bytes.Equal(all, kept) {
		t.Error("the bytes that were handed in have changed")
	}
}

// P1.2: a hash that New gives has taken nothing.
func TestNew(t *testing.T) {
	x := sha.New()
	if x == nil || x.Len() != 0 || x.Sum() != sha256.Sum256(nil) {
		t.Error("New")
	}
}

// P1.2: Write takes bytes behind those before, in pieces of any size; Sum and Len tell at each step of all of them.
func TestWriteInPieces(t *testing.T) {
	all := counted(700)
	for _, size := range []int{1, 3, 31, 55, 56, 63, 64, 65, 127, 128, 129, 200, 700} {
		x := sha.New()
		for at := 0; at < len(all); {
			end := min(at+size, len(all))
			x.Write(all[at:end])
			at = end
			if got, want := x.Sum(), sha256.Sum256(all[:at]); got != want {
				t.Errorf("pieces of %d, behind %d bytes: %x, not %x", size, at, got, want)
			}
			if x.Len() != at {
				t.Errorf("pieces of %d: Len %d, not %d", size, x.Len(), at)
			}
		}
	}
}

// P1.2: nothing that is written changes nothing.
func TestWriteNothing(t *testing.T) {
	x := sha.New()
	for _, n := range []int{0, 1, 63, 64, 100} {
		x.Reset()
		x.Write(counted(n))
		x.Write(nil)
		x.Write([]byte{})
		if x.Len() != n || x.Sum() != sha256.Sum256(counted(n)) {
			t.Errorf("nothing written behind %d bytes", n)
		}
	}
}

// P1.2: Sum changes nothing, wherever in a block the bytes end.
func TestSumChangesNothing(t *testing.T) {
	all := counted(200)
	for n := range len(all) + 1 {
		x := sha.New()
		x.Write(all[:n])
		first := x.Sum()
		if x.Sum() != first || x.Len() != n {
			t.Errorf("a second Sum behind %d bytes is another one", n)
		}
		x.Write(all[n:])
		if x.Sum() != sha256.Sum256(all) {
			t.Errorf("bytes written behind a Sum of %d bytes", n)
		}
	}
}

// P1.2: nothing of what is written is kept.
func TestWriteKeepsNothing(t *testing.T) {
	for _, n := range []int{1, 40, 64, 100} {
		b := counted(n)
		x := sha.New()
		x.Write(b)
		want := sha256.Sum256(b)
		clear(b)
		if x.Sum() != want {
			t.Errorf("%d bytes that are changed behind Write change the digest", n)
		}
	}
}

// P1.2: Reset lets all go, behind any number of bytes.
func TestReset(t *testing.T) {
	for _, n := range []int{0, 1, 64, 100, 128, 200} {
		x := sha.New()
		x.Write(counted(n))
		x.Reset()
		if x.Len() != 0 || x.Sum() != sha256.Sum256(nil) {
			t.Errorf("Reset behind %d bytes", n)
		}
		x.Write([]byte("abc"))
		if x.Len() != 3 || x.Sum() != sha256.Sum256([]byte("abc")) {
			t.Errorf("bytes written behind Reset of %d bytes", n)
		}
	}
}

// P1.2: two hashes never meet.
func TestTwoHashes(t *testing.T) {
	x, y := sha.New(), sha.New()
	x.Write([]byte("ab"))
	y.Write([]byte("xyz"))
	x.Write([]byte("c"))
	y.Reset()
	y.Write([]byte("x"))
	if x.Sum() != sha256.Sum256([]byte("abc")) || y.Sum() != sha256.Sum256([]byte("x")) || x.Len() != 3 || y.Len() != 1 {
		t.Error("a hash has taken another one's bytes")
	}
}

// P1.2: a nil hash does nothing and answers zero values.
func TestNilHash(t *testing.T) {
	var x *sha.Hash
	x.Write([]byte("abc"))
	x.Write(nil)
	x.Reset()
	if x.Sum() != [sha.Size]byte{} || x.Len() != 0 {
		t.Error("nil Hash")
	}
}

// Rule 1: also a hash that New did not give does not panic; it has taken nothing.
func TestZeroHash(t *testing.T) {
	var x sha.Hash
	if x.Len() != 0 || x.Sum() != sha256.Sum256(nil) {
		t.Error("a zero Hash has taken something")
	}
	x.Write([]byte("abc"))
	if x.Len() != 3 || x.Sum() != sha256.Sum256([]byte("abc")) {
		t.Error("a zero Hash does not take bytes")
	}
}

// P1.1, P1.2: the number of bits has eight bytes: with 2^29 bytes it is beyond 32 bits.
func TestManyBits(t *testing.T) {
	if testing.Short() {
		t.Skip("takes seconds")
	}
	piece := counted(1 << 20)
	x, y := sha.New(), sha256.New()
	for range 1 << 9 {
		x.Write(piece)
		y.Write(piece)
	}
	got := x.Sum()
	if x.Len() != 1<<29 || !bytes.Equal(got[:], y.Sum(nil)) {
		t.Errorf("2^29 bytes: %x, not %x", got, y.Sum(nil))
	}
}

func BenchmarkOf(b *testing.B) {
	piece := counted(1 << 16)
	b.SetBytes(int64(len(piece)))
	for b.Loop() {
		sha.Of(piece)
	}
}
