package fp2_test

import (
	"bytes"
	"math/big"
	"math/rand/v2"
	"testing"

	"cresset/api"
	"cresset/fp"
	"cresset/fp2"
)

const modulusHex = "1a0111ea397fe69a4b1ba7b6434bacd764774b84f38512bf6730d2a0f6b0f6241eabfffeb153ffffb9feffffffffaaab"

var modulus, _ = new(big.Int).SetString(modulusHex, 16)

// pair is a + b i by math/big: what the numbers of the field are held against.
type pair struct{ a, b *big.Int }

// in is a number modulo p.
func in(n *big.Int) *big.Int { return new(big.Int).Mod(n, modulus) }

func sum(x, y *big.Int) *big.Int        { return in(new(big.Int).Add(x, y)) }
func difference(x, y *big.Int) *big.Int { return in(new(big.Int).Sub(x, y)) }
func product(x, y *big.Int) *big.Int    { return in(new(big.Int).Mul(x, y)) }

func (x pair) add(y pair) pair { return pair{sum(x.a, y.a), sum(x.b, y.b)} }
func (x pair) sub(y pair) pair { return pair{difference(x.a, y.a), difference(x.b, y.b)} }
func (x pair) mul(y pair) pair {
	return pair{difference(product(x.a, y.a), product(x.b, y.b)), sum(product(x.a, y.b), product(x.b, y.a))}
}
func (x pair) same(y pair) bool { return x.a.Cmp(y.a) == 0 && x.b.Cmp(y.b) == 0 }
func (x pair) nought() bool     { return x.a.Sign() == 0 && x.b.Sign() == 0 }

// norm is the sum of the squares.
func (x pair) norm() *big.Int { return sum(product(x.a, x.a), product(x.b, x.b)) }

// power is x as often times itself as n says.
func (x pair) power(n *big.Int) pair {
	y := small(1, 0)
	for i := n.BitLen() - 1; i >= 0; i-- {
		if y = y.mul(y); n.Bit(i) == 1 {
			y = y.mul(x)
		}
	}
	return y
}

func small(a, b int64) pair { return pair{in(big.NewInt(a)), in(big.NewInt(b))} }

// beneath is a number of layer 4 by Read.
func beneath(t testing.TB, n *big.Int) fp.El {
	t.Helper()
	var b [fp.Size]byte
	x, e := fp.Read(n.FillBytes(b[:]))
	if e != api.OK {
		t.Fatalf("fp.Read of %x: %d", n, e)
	}
	return x
}

// element is a number of the field by its parts.
func element(t testing.TB, x pair) fp2.El {
	t.Helper()
	return fp2.El{A: beneath(t, x.a), B: beneath(t, x.b)}
}

// number is what an fp2.El is by its parts' bytes.
func number(x fp2.El) pair {
	a, b := x.A.Bytes(), x.B.Bytes()
	return pair{new(big.Int).SetBytes(a[:]), new(big.Int).SetBytes(b[:])}
}

// check holds a number of the field against one of math/big: by its parts, by ==, and by Zero.
func check(t *testing.T, what string, got fp2.El, want pair) {
	t.Helper()
	if g := number(got); !g.same(want) {
		t.Errorf("%s: %x + %x i, not %x + %x i", what, g.a, g.b, want.a, want.b)
	}
	if got != element(t, want) {
		t.Errorf("%s: not the same by == as %x + %x i", what, want.a, want.b)
	}
	if got.Zero() != want.nought() {
		t.Errorf("%s: Zero of %x + %x i", what, want.a, want.b)
	}
}

// parts are numbers of layer 4: those about the edges, and some more.
func parts() []*big.Int {
	half := new(big.Int).Rsh(modulus, 1)
	all := []*big.Int{}
	for k := range int64(3) {
		n := big.NewInt(k)
		all = append(all, n, in(big.NewInt(-1-k)), sum(half, n), difference(half, n))
	}
	for _, bit := range []uint{63, 64, 191, 192, 320, 379, 380} {
		all = append(all, new(big.Int).Lsh(big.NewInt(1), bit))
	}
	return append(all, random(4)...)
}

// random are some numbers of layer 4 that are the same each time.
func random(count int) []*big.Int {
	source := rand.New(rand.NewPCG(5, 381))
	all := []*big.Int{}
	for range count {
		var b [fp.Size + 8]byte
		for i := range b {
			b[i] = byte(source.Uint32())
		}
		all = append(all, in(new(big.Int).SetBytes(b[:])))
	}
	return all
}

// numbers are the pairs of parts, each with each.
func numbers() []pair {
	all := []pair{}
	for _, a := range parts() {
		for _, b := range parts() {
			all = append(all, pair{a, b})
		}
	}
	return all
}

// few are some of numbers: what is reckoned with two is tried with each two of them.
func few() []pair {
	edges := []*big.Int{big.NewInt(0), big.NewInt(1), big.NewInt(2), in(big.NewInt(-1)), new(big.Int).Rsh(modulus, 1)}
	edges = append(edges, random(3)...)
	all := []pair{}
	for _, a := range edges {
		for _, b := range edges {
			all = append(all, pair{a, b})
		}
	}
	return all
}

// P5.1: Of has no i, Small has, and El{} is 0.
func TestOfSmall(t *testing.T) {
	for _, n := range parts() {
		check(t, "Of", fp2.Of(beneath(t, n)), pair{n, new(big.Int)})
	}
	words := []uint64{0, 1, 2, 255, 1 << 32, 1<<63 - 1, 1 << 63, 1<<64 - 1}
	for _, a := range words {
		for _, b := range words {
			check(t, "Small", fp2.Small(a, b), pair{new(big.Int).SetUint64(a), new(big.Int).SetUint64(b)})
		}
	}
	if fp2.Small(0, 0) != (fp2.El{}) || fp2.Of(fp.El{}) != (fp2.El{}) {
		t.Error("0 is not El{}")
	}
}

// P5.1: Read and Bytes are one another's reverse, B first.
func TestReadBytes(t *testing.T) {
	for _, n := range numbers() {
		var b [fp2.Size]byte
		n.b.FillBytes(b[:fp.Size])
		n.a.FillBytes(b[fp.Size:])
		kept := b
		x, e := fp2.Read(b[:])
		if e != api.OK || b != kept {
			t.Errorf("Read of %x: %d, and the bytes are %x behind it", kept, e, b)
		}
		check(t, "Read", x, n)
		if x.Bytes() != kept {
			t.Errorf("Bytes of %x: %x", kept, x.Bytes())
		}
	}
	want := [fp2.Size]byte{fp.Size - 2: 1, fp.Size - 1: 2, fp2.Size - 2: 3, fp2.Size - 1: 4}
	if got := fp2.Small(0x304, 0x102).Bytes(); got != want {
		t.Errorf("Bytes of 304 + 102 i: %x", got)
	}
}

// P5.1: other lengths are ErrLen, whatever the bytes are.
func TestReadLength(t *testing.T) {
	for n := range 3 * fp2.Size {
		for _, c := range []byte{0, 1, 0xff} {
			x, e := fp2.Read(bytes.Repeat([]byte{c}, n))
			if n != fp2.Size && (e != api.ErrLen || x != fp2.El{}) {
				t.Errorf("Read of %d bytes %x: %d, and %x", n, c, e, x.Bytes())
			}
		}
	}
	if x, e := fp2.Read(nil); e != api.ErrLen || x != (fp2.El{}) {
		t.Error("Read of nil: ", e)
	}
}

// P5.1: what is no number of layer 4 in either half is ErrField, and all else is read.
func TestReadField(t *testing.T) {
	most := new(big.Int).Lsh(big.NewInt(1), 8*fp.Size)
	wrong := []*big.Int{modulus, new(big.Int).Add(modulus, big.NewInt(1)), new(big.Int).Lsh(modulus, 1), new(big.Int).Sub(most, big.NewInt(1))}
	right := []*big.Int{new(big.Int), big.NewInt(1), in(big.NewInt(-1))}
	read := func(first, last *big.Int) (fp2.El, api.Errno) {
		var b [fp2.Size]byte
		first.FillBytes(b[:fp.Size])
		last.FillBytes(b[fp.Size:])
		return fp2.Read(b[:])
	}
	for _, w := range wrong {
		for _, other := range append(right, wrong...) {
			if x, e := read(w, other); e != api.ErrField || x != (fp2.El{}) {
				t.Errorf("Read of %x, %x: %d, and %x", w, other, e, x.Bytes())
			}
			if x, e := read(other, w); e != api.ErrField || x != (fp2.El{}) {
				t.Errorf("Read of %x, %x: %d, and %x", other, w, e, x.Bytes())
			}
		}
	}
	for _, first := range right {
		for _, last := range right {
			if x, e := read(first, last); e != api.OK || !number(x).same(pair{last, first}) {
				t.Errorf("Read of %x, %x: %d, and %x", first, last, e, x.Bytes())
			}
		}
	}
}

// P5.1: Zero is true of 0 alone: one part that is not 0 is enough.
func TestZero(t *testing.T) {
	if !(fp2.El{}).Zero() || !fp2.Small(0, 0).Zero() || !fp2.Small(3, 4).Sub(fp2.Small(3, 4)).Zero() {
		t.Error("Zero of 0")
	}
	if fp2.Small(1, 0).Zero() || fp2.Small(0, 1).Zero() || fp2.Small(1, 1).Zero() || fp2.Small(1, 0).Neg().Zero() {
		t.Error("Zero of others")
	}
	if (fp2.El{}).Bytes() != [fp2.Size]byte{} {
		t.Error("Bytes of 0")
	}
}

// P5.2: what is reckoned with two numbers, each with each.
func TestTwo(t *testing.T) {
	for _, m := range few() {
		x := element(t, m)
		for _, n := range few() {
			y := element(t, n)
			check(t, "Add", x.Add(y), m.add(n))
			check(t, "Sub", x.Sub(y), m.sub(n))
			check(t, "Mul", x.Mul(y), m.mul(n))
		}
		for _, k := range parts() {
			check(t, "Scale", x.Scale(beneath(t, k)), m.mul(pair{k, new(big.Int)}))
		}
	}
}

// P5.2: what is reckoned with one.
func TestOne(t *testing.T) {
	for _, n := range numbers() {
		x := element(t, n)
		check(t, "Neg", x.Neg(), small(0, 0).sub(n))
		check(t, "Conj", x.Conj(), pair{n.a, in(new(big.Int).Neg(n.b))})
		check(t, "Double", x.Double(), n.add(n))
		check(t, "Square", x.Square(), n.mul(n))
		if got := x.Norm(); got != beneath(t, n.norm()) {
			t.Errorf("Norm of %x + %x i: %x", n.a, n.b, got.Bytes())
		}
		if n.nought() {
			check(t, "Inv of 0", x.Inv(), n)
			continue
		}
		check(t, "x times Inv", x.Mul(x.Inv()), small(1, 0))
		check(t, "Inv by math/big", element(t, n.mul(number(x.Inv()))), small(1, 0))
	}
}

// P5.2: the chapter's examples, and i.
func TestExamples(t *testing.T) {
	i := fp2.Small(0, 1)
	check(t, "i squared", i.Square(), small(-1, 0))
	check(t, "i times i", i.Mul(i), small(-1, 0))
	check(t, "(1 + 2 i) (3 + i)", fp2.Small(1, 2).Mul(fp2.Small(3, 1)), small(1, 7))
	check(t, "1 by i", i.Inv(), small(0, -1))
	if fp2.Small(3, 4).Norm() != fp.Of(25) {
		t.Error("Norm of 3 + 4 i")
	}
}

// P5.2: long chains stay right, and each number has one form.
func TestChain(t *testing.T) {
	x, n := fp2.Small(3, 5), small(3, 5)
	for step := range 500 {
		x, n = x.Square().Add(fp2.Small(7, 2)).Mul(fp2.Small(1, 9)), n.mul(n).add(small(7, 2)).mul(small(1, 9))
		check(t, "the chain", x, n)
		if x.Add(x.Neg()) != (fp2.El{}) || x.Sub(x) != (fp2.El{}) || x.Conj().Conj() != x || x.Double().Sub(x) != x || x.Mul(x.Conj()) != fp2.Of(x.Norm()) {
			t.Errorf("step %d: a number has two forms", step)
		}
	}
}

// P5.2, P5.3: a number is a value: nothing that is reckoned with it changes it.
func TestValues(t *testing.T) {
	for _, n := range few() {
		x := element(t, n)
		y := x
		x.Add(x)
		x.Sub(fp2.Small(1, 1))
		x.Neg()
		x.Conj()
		x.Double()
		x.Mul(x)
		x.Square()
		x.Scale(fp.Of(3))
		x.Norm()
		x.Inv()
		x.Sqrt()
		x.Bytes()
		x.Odd()
		x.Large()
		if x != y {
			t.Errorf("%x + %x i has changed", n.a, n.b)
		}
	}
}

// P5.3: there is a root just if the norm has one, by math/big; it squared is the number.
func TestSqrt(t *testing.T) {
	found, none := 0, 0
	for _, n := range numbers() {
		x := element(t, n)
		root, ok := x.Sqrt()
		if ok != (big.Jacobi(n.norm(), modulus) >= 0) {
			t.Errorf("Sqrt of %x + %x i: %v", n.a, n.b, ok)
		}
		if _, normed := x.Norm().Sqrt(); ok != normed {
			t.Errorf("Sqrt of %x + %x i: %v, of its norm: %v", n.a, n.b, ok, normed)
		}
		if !ok {
			none++
			check(t, "what no root leaves", root, small(0, 0))
			continue
		}
		found++
		r := number(root)
		check(t, "Sqrt squared", x, r.mul(r))
	}
	if found < 100 || none < 100 {
		t.Errorf("%d with a root, %d without: too few to tell", found, none)
	}
}

// P5.3: each square has a root; times 1 + i, which has none, no square but 0 has one.
func TestSqrtOfSquares(t *testing.T) {
	other := fp2.Small(1, 1)
	for _, n := range numbers() {
		x := element(t, n)
		square := x.Square()
		root, ok := square.Sqrt()
		if !ok || root != x && root != x.Neg() {
			t.Errorf("Sqrt of %x + %x i squared: %x, %v", n.a, n.b, root.Bytes(), ok)
		}
		if n.nought() {
			continue
		}
		if root, ok := square.Mul(other).Sqrt(); ok || root != (fp2.El{}) {
			t.Errorf("Sqrt of 1 + i times %x + %x i squared: %x, %v", n.a, n.b, root.Bytes(), ok)
		}
	}
}

// P5.3: of B 0 there always is a root, of A 0 where the whole is a square; of 0 it is 0.
func TestSqrtOnTheAxes(t *testing.T) {
	for _, n := range parts() {
		plain := element(t, pair{n, new(big.Int)})
		if root, ok := plain.Sqrt(); !ok || root.Square() != plain {
			t.Errorf("Sqrt of %x: %x, %v", n, root.Bytes(), ok)
		}
		upright := pair{new(big.Int), n}
		root, ok := element(t, upright).Sqrt()
		// By Euler: a square, but 0, is 1 to half the power that each number is 1 to.
		half := new(big.Int).Rsh(new(big.Int).Sub(new(big.Int).Mul(modulus, modulus), big.NewInt(1)), 1)
		want := n.Sign() == 0 || upright.power(half).same(small(1, 0))
		if ok != want || ok && root.Square() != element(t, upright) {
			t.Errorf("Sqrt of %x i: %x, %v", n, root.Bytes(), ok)
		}
	}
	if root, ok := (fp2.El{}).Sqrt(); !ok || root != (fp2.El{}) {
		t.Error("Sqrt of 0: ", ok)
	}
	if root, ok := fp2.Small(1, 0).Neg().Sqrt(); !ok || root != fp2.Small(0, 1) && root != fp2.Small(0, 1).Neg() {
		t.Error("Sqrt of -1: ", ok)
	}
	if root, ok := fp2.Small(1, 1).Sqrt(); ok || root != (fp2.El{}) {
		t.Error("Sqrt of 1 + i")
	}
}

// P5.4: Odd asks A, and B just where A is 0.
func TestOdd(t *testing.T) {
	for _, n := range numbers() {
		want := n.a.Bit(0) == 1
		if n.a.Sign() == 0 {
			want = n.b.Bit(0) == 1
		}
		if got := element(t, n).Odd(); got != want {
			t.Errorf("Odd of %x + %x i: %v", n.a, n.b, got)
		}
	}
	if fp2.Small(0, 0).Odd() || !fp2.Small(0, 1).Odd() || fp2.Small(0, 2).Odd() || !fp2.Small(1, 2).Odd() || fp2.Small(2, 1).Odd() {
		t.Error("Odd of small ones")
	}
}

// P5.4: Large asks B, and A just where B is 0.
func TestLarge(t *testing.T) {
	large := func(n *big.Int) bool { return n.Sign() != 0 && n.Cmp(new(big.Int).Sub(modulus, n)) > 0 }
	for _, n := range numbers() {
		want := large(n.b)
		if n.b.Sign() == 0 {
			want = large(n.a)
		}
		if got := element(t, n).Large(); got != want {
			t.Errorf("Large of %x + %x i: %v", n.a, n.b, got)
		}
		if x := element(t, n); !n.nought() && x.Large() == x.Neg().Large() {
			t.Errorf("Large of %x + %x i and of its negative", n.a, n.b)
		}
	}
	minus := fp.Of(1).Neg()
	if fp2.Small(0, 0).Large() || fp2.Small(1, 0).Large() || fp2.Small(0, 1).Large() || !fp2.Of(minus).Large() || (fp2.El{A: minus, B: fp.Of(1)}).Large() || !(fp2.El{A: fp.Of(1), B: minus}).Large() {
		t.Error("Large of small ones")
	}
}

func BenchmarkMul(b *testing.B) {
	x, y := fp2.Small(7, 5).Inv(), fp2.Small(11, 3).Inv()
	for b.Loop() {
		x = x.Mul(y)
	}
}

func BenchmarkSquare(b *testing.B) {
	x := fp2.Small(7, 5).Inv()
	for b.Loop() {
		x = x.Square()
	}
}

func BenchmarkSqrt(b *testing.B) {
	x := fp2.Small(7, 5).Inv().Square()
	for b.Loop() {
		x.Sqrt()
	}
}
