package fr_test

import (
	"bytes"
	"math/big"
	"math/rand/v2"
	"testing"

	"cresset/api"
	"cresset/fr"
)

const (
	modulusHex = "73eda753299d7d483339d80809a1d80553bda402fffe5bfeffffffff00000001"
	oneLessHex = "73eda753299d7d483339d80809a1d80553bda402fffe5bfeffffffff00000000"
)

// number is the number that hex digits are.
func number(t testing.TB, digits string) *big.Int {
	t.Helper()
	n, ok := new(big.Int).SetString(digits, 16)
	if !ok {
		t.Fatal("no hex digits: ", digits)
	}
	return n
}

func modulus(t testing.TB) *big.Int { return number(t, modulusHex) }

// plus is n + k.
func plus(n *big.Int, k int64) *big.Int { return new(big.Int).Add(n, big.NewInt(k)) }

// element is a number of the field by Read.
func element(t testing.TB, n *big.Int) fr.El {
	t.Helper()
	var b [fr.Size]byte
	x, e := fr.Read(n.FillBytes(b[:]))
	if e != api.OK {
		t.Fatalf("Read of %x: %d", n, e)
	}
	return x
}

// check holds a number of the field against one of math/big: by ==, by its bytes, and by Zero.
func check(t *testing.T, what string, got fr.El, want *big.Int) {
	t.Helper()
	b := got.Bytes()
	if new(big.Int).SetBytes(b[:]).Cmp(want) != 0 {
		t.Errorf("%s: %x, not %x", what, b, want)
	}
	if got != element(t, want) {
		t.Errorf("%s: not the same by == as %x", what, want)
	}
	if got.Zero() != (want.Sign() == 0) {
		t.Errorf("%s: Zero of %x", what, want)
	}
}

// numbers are those about the edges, of the field and of its words, and some more.
func numbers(t testing.TB) []*big.Int {
	m := modulus(t)
	all := []*big.Int{}
	for k := range int64(5) {
		all = append(all, big.NewInt(k), plus(m, -1-k))
	}
	half := new(big.Int).Rsh(m, 1)
	all = append(all, plus(half, -1), half, plus(half, 1), plus(half, 2))
	for bit := uint(63); bit < 8*fr.Size; bit++ {
		power := new(big.Int).Lsh(big.NewInt(1), bit)
		if bit%64 <= 1 || bit%64 == 63 {
			for _, n := range []*big.Int{plus(power, -1), power, plus(power, 1)} {
				if n.Cmp(m) < 0 {
					all = append(all, n, new(big.Int).Sub(m, n))
				}
			}
		}
	}
	source := rand.New(rand.NewPCG(3, 255))
	for range 30 {
		var b [fr.Size + 8]byte
		for i := range b {
			b[i] = byte(source.Uint32())
		}
		n := new(big.Int).SetBytes(b[:])
		all = append(all, n.Mod(n, m))
	}
	return all
}

// P3.1: Of is the number, up to the greatest, and is the one that Read reads.
func TestOf(t *testing.T) {
	for _, n := range []uint64{0, 1, 2, 7, 255, 256, 1 << 32, 1<<63 - 1, 1 << 63, 1<<64 - 2, 1<<64 - 1} {
		check(t, "Of", fr.Of(n), new(big.Int).SetUint64(n))
	}
	if fr.Of(0) != (fr.El{}) {
		t.Error("Of(0) is not El{}")
	}
}

// P3.1: Read and Bytes are one another's reverse, also at the edges.
func TestReadBytes(t *testing.T) {
	for _, n := range numbers(t) {
		var b [fr.Size]byte
		n.FillBytes(b[:])
		kept := b
		x, e := fr.Read(b[:])
		if e != api.OK || b != kept {
			t.Errorf("Read of %x: %d, and the bytes are %x behind it", kept, e, b)
		}
		if x.Bytes() != kept {
			t.Errorf("Bytes of %x: %x", kept, x.Bytes())
		}
	}
	x := element(t, number(t, oneLessHex))
	if x != fr.Of(1).Neg() {
		t.Error("Read of r - 1 is not -1")
	}
}

// P3.1: the highest byte comes first.
func TestBytesOrder(t *testing.T) {
	want := [fr.Size]byte{fr.Size - 2: 1, fr.Size - 1: 2}
	if got := fr.Of(0x102).Bytes(); got != want {
		t.Errorf("Bytes of 102: %x", got)
	}
	high := [fr.Size]byte{0: 1}
	x, e := fr.Read(high[:])
	if e != api.OK {
		t.Fatal(e)
	}
	check(t, "Read of 1 and 31 bytes 0", x, new(big.Int).Lsh(big.NewInt(1), 8*(fr.Size-1)))
}

// P3.1: other lengths are ErrLen, whatever the bytes are.
func TestReadLength(t *testing.T) {
	for n := range 3 * fr.Size {
		for _, c := range []byte{0, 1, 0xff} {
			x, e := fr.Read(bytes.Repeat([]byte{c}, n))
			if n != fr.Size && (e != api.ErrLen || x != fr.El{}) {
				t.Errorf("Read of %d bytes %x: %d, and %x", n, c, e, x.Bytes())
			}
		}
	}
	if x, e := fr.Read(nil); e != api.ErrLen || x != (fr.El{}) {
		t.Error("Read of nil: ", e)
	}
}

// P3.1: from the modulus on it is ErrField.
func TestReadField(t *testing.T) {
	m := modulus(t)
	all := []*big.Int{m, plus(m, 1), plus(m, 0xffffffff), new(big.Int).Lsh(m, 1)}
	for bit := uint(0); bit < 8*fr.Size; bit++ {
		power := new(big.Int).Lsh(big.NewInt(1), bit)
		all = append(all, new(big.Int).Or(m, power), plus(new(big.Int).Lsh(power, 1), -1), new(big.Int).Sub(m, power))
	}
	for _, n := range all {
		if n.BitLen() > 8*fr.Size || n.Sign() < 0 {
			continue
		}
		var b [fr.Size]byte
		x, e := fr.Read(n.FillBytes(b[:]))
		if n.Cmp(m) < 0 {
			check(t, "Read", x, n)
		} else if e != api.ErrField || x != (fr.El{}) {
			t.Errorf("Read of %x: %d, and %x", b, e, x.Bytes())
		}
	}
}

// P3.1: Wide takes any bytes, of each length, modulo r.
func TestWide(t *testing.T) {
	m := modulus(t)
	source := rand.New(rand.NewPCG(3, 1))
	for n := range 4*fr.Size + 2 {
		mixed := make([]byte, n)
		for i := range mixed {
			mixed[i] = byte(source.Uint32())
		}
		last := make([]byte, n)
		if n > 0 {
			last[n-1] = 9
		}
		for _, b := range [][]byte{mixed, last, make([]byte, n), bytes.Repeat([]byte{0xff}, n), bytes.Repeat([]byte{0x80}, n)} {
			kept := bytes.Clone(b)
			want := new(big.Int).SetBytes(b)
			check(t, "Wide", fr.Wide(b), want.Mod(want, m))
			if !bytes.Equal(b, kept) {
				t.Errorf("Wide has changed %x into %x", kept, b)
			}
		}
	}
	if fr.Wide(nil) != (fr.El{}) || fr.Wide([]byte{}) != (fr.El{}) {
		t.Error("Wide of no bytes")
	}
}

// P3.1: Wide of the numbers about multiples of the modulus, and of many bytes.
func TestWideMultiples(t *testing.T) {
	m := modulus(t)
	for _, times := range []int64{1, 2, 3, 9, 10, 255, 1 << 40} {
		multiple := new(big.Int).Mul(m, big.NewInt(times))
		for k := range int64(3) {
			check(t, "Wide above a multiple", fr.Wide(plus(multiple, k).Bytes()), big.NewInt(k))
			check(t, "Wide below a multiple", fr.Wide(plus(multiple, -1-k).Bytes()), plus(m, -1-k))
		}
	}
	many := bytes.Repeat([]byte{0xa5, 0, 0xff}, 10000)
	want := new(big.Int).SetBytes(many)
	check(t, "Wide of 30000 bytes", fr.Wide(many), want.Mod(want, m))
}

// P3.1: only 0 is Zero, however it came about.
func TestZero(t *testing.T) {
	if !(fr.El{}).Zero() || !fr.Of(0).Zero() || fr.Of(1).Zero() || fr.Of(1<<63).Zero() {
		t.Error("Zero")
	}
	if fr.Of(0).Bytes() != [fr.Size]byte{} {
		t.Error("Bytes of 0")
	}
	m := modulus(t)
	for bit := range uint(8*fr.Size - 2) {
		n := new(big.Int).Lsh(big.NewInt(1), bit)
		if element(t, n).Zero() || element(t, n.Sub(m, n)).Zero() {
			t.Errorf("Zero of 2^%d or its negative", bit)
		}
	}
}

// P3.2: what is reckoned with two numbers, each with each.
func TestTwo(t *testing.T) {
	m := modulus(t)
	all := numbers(t)
	for _, a := range all {
		x := element(t, a)
		for _, b := range all {
			y := element(t, b)
			want := new(big.Int).Add(a, b)
			check(t, "Add", x.Add(y), want.Mod(want, m))
			want = new(big.Int).Sub(a, b)
			check(t, "Sub", x.Sub(y), want.Mod(want, m))
			want = new(big.Int).Mul(a, b)
			check(t, "Mul", x.Mul(y), want.Mod(want, m))
		}
	}
}

// P3.2: what is reckoned with one.
func TestOne(t *testing.T) {
	m := modulus(t)
	for _, a := range numbers(t) {
		x := element(t, a)
		want := new(big.Int).Neg(a)
		check(t, "Neg", x.Neg(), want.Mod(want, m))
		want = new(big.Int).Mul(a, a)
		check(t, "Square", x.Square(), want.Mod(want, m))
		if a.Sign() == 0 {
			check(t, "Inv of 0", x.Inv(), a)
			continue
		}
		check(t, "Inv", x.Inv(), new(big.Int).ModInverse(a, m))
		check(t, "x times Inv", x.Mul(x.Inv()), big.NewInt(1))
	}
}

// P3.2: long chains stay right, and each number has one form.
func TestChain(t *testing.T) {
	m := modulus(t)
	x, a := fr.Of(3), big.NewInt(3)
	seven := big.NewInt(7)
	for i := range 2000 {
		x, a = x.Square().Add(fr.Of(7)), new(big.Int).Mul(a, a)
		a.Mod(a.Add(a, seven), m)
		check(t, "x times x + 7", x, a)
		if x.Add(x.Neg()) != (fr.El{}) || x.Sub(x) != (fr.El{}) || x.Neg().Neg() != x || x.Add(x).Sub(x) != x {
			t.Errorf("step %d: a number has two forms", i)
		}
	}
}

// P3.2: a number is a value: nothing that is reckoned with it changes it.
func TestValues(t *testing.T) {
	for _, n := range numbers(t) {
		x := element(t, n)
		y := x
		x.Add(x)
		x.Sub(fr.Of(1))
		x.Neg()
		x.Mul(x)
		x.Square()
		x.Inv()
		x.Bytes()
		if x != y {
			t.Errorf("%x has changed", n)
		}
	}
}

func BenchmarkAdd(b *testing.B) {
	x, y := fr.Of(7).Inv(), fr.Of(11).Inv()
	for b.Loop() {
		x = x.Add(y)
	}
}

func BenchmarkMul(b *testing.B) {
	x, y := fr.Of(7).Inv(), fr.Of(11).Inv()
	for b.Loop() {
		x = x.Mul(y)
	}
}

func BenchmarkInv(b *testing.B) {
	x := fr.Of(7).Inv()
	for b.Loop() {
		x = x.Inv()
	}
}
