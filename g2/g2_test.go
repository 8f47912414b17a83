package g2_test

import (
	"bytes"
	"math/big"
	"math/rand/v2"
	"slices"
	"testing"

	"cresset/api"
	"cresset/fp"
	"cresset/fp2"
	"cresset/fr"
	"cresset/g2"
)

const (
	modulusHex = "1a0111ea397fe69a4b1ba7b6434bacd764774b84f38512bf6730d2a0f6b0f6241eabfffeb153ffffb9feffffffffaaab"
	orderHex   = "73eda753299d7d483339d80809a1d80553bda402fffe5bfeffffffff00000001"
	// cofactorHex times the order is how many points the curve has; among its primes are 13 and 23, both twice, 2713, 11953 and 262069.
	cofactorHex = "5d543a95414e7f1091d50792876a202cd91de4547085abaa68a205b2e5a7ddfa628f1cb4d9e82ef21537e293a6691ae1616ec6e786f0c70cf1c38e31c7238e5"
	genXAHex    = "024aa2b2f08f0a91260805272dc51051c6e47ad4fa403b02b4510b647ae3d1770bac0326a805bbefd48056c8c121bdb8"
	genXBHex    = "13e02b6052719f607dacd3a088274f65596bd0d09920b61ab5da61bbdc7f5049334cf11213945d57e5ac7d055d042b7e"
	genYAHex    = "0ce5d527727d6e118cc9cdc6da2e351aadfd9baa8cbdd3a76d429a695160d12c923ac9cc3baca289e193548608b82801"
	genYBHex    = "0606c4a02ea734cc32acd2b02bc28b99cb3e287e85a763af267492ab572e99ab3f370d275cec1da1aaa9075ff05f79be"
)

var (
	modulus  = hex(modulusHex)
	order    = hex(orderHex)
	cofactor = hex(cofactorHex)
	all      = new(big.Int).Mul(order, cofactor)
)

// hex is the number that hex digits are.
func hex(digits string) *big.Int {
	n, ok := new(big.Int).SetString(digits, 16)
	if !ok {
		panic("no hex digits: " + digits)
	}
	return n
}

// in is a number modulo p.
func in(n *big.Int) *big.Int { return new(big.Int).Mod(n, modulus) }

// pair is a + b i by math/big.
type pair struct{ a, b *big.Int }

func small(a, b int64) pair { return pair{in(big.NewInt(a)), in(big.NewInt(b))} }

func (x pair) add(y pair) pair {
	return pair{in(new(big.Int).Add(x.a, y.a)), in(new(big.Int).Add(x.b, y.b))}
}

func (x pair) sub(y pair) pair {
	return pair{in(new(big.Int).Sub(x.a, y.a)), in(new(big.Int).Sub(x.b, y.b))}
}

func (x pair) mul(y pair) pair {
	a := new(big.Int).Mul(x.a, y.a)
	b := new(big.Int).Mul(x.a, y.b)
	return pair{in(a.Sub(a, new(big.Int).Mul(x.b, y.b))), in(b.Add(b, new(big.Int).Mul(x.b, y.a)))}
}

func (x pair) inverse() pair {
	norm := new(big.Int).Mul(x.a, x.a)
	norm.Add(norm, new(big.Int).Mul(x.b, x.b)).ModInverse(norm, modulus)
	return small(0, 0).sub(pair{new(big.Int).Neg(x.a), x.b}).mul(pair{norm, new(big.Int)})
}

func (x pair) same(y pair) bool { return x.a.Cmp(y.a) == 0 && x.b.Cmp(y.b) == 0 }

// spot is a point by math/big: what the points are held against. The zero one is infinity.
type spot struct{ x, y pair }

func (a spot) nought() bool { return a.x.a == nil }

func (a spot) same(b spot) bool {
	if a.nought() || b.nought() {
		return a.nought() && b.nought()
	}
	return a.x.same(b.x) && a.y.same(b.y)
}

func (a spot) neg() spot {
	if a.nought() {
		return a
	}
	return spot{a.x, small(0, 0).sub(a.y)}
}

// plus is a + b, by chords and tangents.
func (a spot) plus(b spot) spot {
	if a.nought() {
		return b
	}
	if b.nought() {
		return a
	}
	if a.same(b.neg()) {
		return spot{}
	}
	high, wide := b.y.sub(a.y), b.x.sub(a.x)
	if a.same(b) {
		high, wide = small(3, 0).mul(a.x).mul(a.x), a.y.add(a.y)
	}
	slope := high.mul(wide.inverse())
	x := slope.mul(slope).sub(a.x).sub(b.x)
	return spot{x, slope.mul(a.x.sub(x)).sub(a.y)}
}

// times is a taken n times.
func (a spot) times(n *big.Int) spot {
	b := spot{}
	for i := n.BitLen() - 1; i >= 0; i-- {
		if b = b.plus(b); n.Bit(i) == 1 {
			b = b.plus(a)
		}
	}
	return b
}

// beneath is a number of layer 4 by Read.
func beneath(t testing.TB, n *big.Int) fp.El {
	t.Helper()
	var b [fp.Size]byte
	x, e := fp.Read(n.FillBytes(b[:]))
	if e != api.OK {
		t.Fatalf("fp.Read of %x: %d", n, e)
	}
	return x
}

// element is a number of layer 5 by its parts.
func element(t testing.TB, x pair) fp2.El {
	t.Helper()
	return fp2.El{A: beneath(t, x.a), B: beneath(t, x.b)}
}

// plain is what a number of layer 5 is by its parts' bytes.
func plain(x fp2.El) pair {
	a, b := x.A.Bytes(), x.B.Bytes()
	return pair{new(big.Int).SetBytes(a[:]), new(big.Int).SetBytes(b[:])}
}

// scalar is a number of layer 3 by Read.
func scalar(t testing.TB, n *big.Int) fr.El {
	t.Helper()
	var b [fr.Size]byte
	k, e := fr.Read(n.FillBytes(b[:]))
	if e != api.OK {
		t.Fatalf("fr.Read of %x: %d", n, e)
	}
	return k
}

// point is a spot as a point.
func point(t testing.TB, a spot) g2.P {
	t.Helper()
	if a.nought() {
		return g2.P{}
	}
	return g2.P{X: element(t, a.x), Y: element(t, a.y)}
}

// check holds a point against a spot.
func check(t *testing.T, what string, got g2.P, want spot) {
	t.Helper()
	if got != point(t, want) {
		t.Errorf("%s: (%x, %x), not (%x + %x i, %x + %x i)", what, got.X.Bytes(), got.Y.Bytes(), want.x.a, want.x.b, want.y.a, want.y.b)
	}
}

func generator() spot {
	return spot{pair{hex(genXAHex), hex(genXBHex)}, pair{hex(genYAHex), hex(genYBHex)}}
}

func source(seed uint64) *rand.Rand { return rand.New(rand.NewPCG(8, seed)) }

// drawn are as many bytes, the same ones each time.
func drawn(from *rand.Rand, count int) []byte {
	b := make([]byte, count)
	for i := range b {
		b[i] = byte(from.Uint32())
	}
	return b
}

// found is some point of the curve: hardly ever one of the group.
func found(t testing.TB, from *rand.Rand) spot {
	t.Helper()
	for {
		x := pair{in(new(big.Int).SetBytes(drawn(from, fp.Size+8))), in(new(big.Int).SetBytes(drawn(from, fp.Size+8)))}
		square := x.mul(x).mul(x).add(small(4, 4))
		if root, ok := element(t, square).Sqrt(); ok && plain(root).mul(plain(root)).same(square) {
			return spot{x, plain(root)}
		}
	}
}

// ofOrder is a point of the curve that comes to nought a prime number of times.
func ofOrder(t testing.TB, prime int64) spot {
	t.Helper()
	p := big.NewInt(prime)
	rest := new(big.Int).Set(all)
	for new(big.Int).Mod(rest, p).Sign() == 0 {
		rest.Div(rest, p)
	}
	from := source(uint64(prime))
	for range 20 {
		a := found(t, from).times(rest)
		for !a.nought() {
			b := a.times(p)
			if b.nought() {
				return a
			}
			a = b
		}
	}
	t.Fatalf("no point of order %d", prime)
	return spot{}
}

// inside are points of the group.
func inside() []spot {
	g := generator()
	some := []spot{{}, g, g.neg()}
	for _, n := range []*big.Int{big.NewInt(2), big.NewInt(3), hex("d201000000010000"), new(big.Int).SetBytes(drawn(source(1), 32))} {
		some = append(some, g.times(n), g.times(n).neg())
	}
	return some
}

// outside are points of the curve that are not of the group: of small orders, some, and such ones with one of the group.
func outside(t testing.TB) []spot {
	thirteen, many := ofOrder(t, 13), ofOrder(t, 23)
	from := source(2)
	some := []spot{thirteen, thirteen.neg(), thirteen.times(big.NewInt(5)), many, ofOrder(t, 2713), ofOrder(t, 262069)}
	some = append(some, generator().plus(thirteen), generator().plus(many), generator().neg().plus(thirteen))
	return append(some, found(t, from), found(t, from))
}

// beside are points that are none of the curve.
func beside(t testing.TB) []g2.P {
	g := g2.Gen()
	one := fp2.Small(1, 0)
	return []g2.P{
		{X: g.X, Y: g.X}, {X: g.Y, Y: g.X}, {X: g.X}, {Y: g.Y}, {X: g.X.Neg(), Y: g.Y},
		{X: g.X, Y: g.Y.Add(one)}, {X: g.X.Add(one), Y: g.Y}, {X: g.X, Y: g.Y.Conj()},
		{X: one, Y: one}, {X: one}, {Y: one}, {X: fp2.Small(0, 1)}, {Y: fp2.Small(0, 1)},
		// of y squared = x cubed + 4 - 4 i
		{X: g.X.Conj(), Y: g.Y.Conj()},
		other(fp2.Small(4, 0)), other(fp2.Small(0, 4)), other(fp2.Small(5, 4)), other(fp2.Small(4, 5)), other(fp2.Small(4, 4).Neg()), other(fp2.El{}),
	}
}

// other is a point of the curve y squared = x cubed + b.
func other(b fp2.El) g2.P {
	for n := uint64(1); ; n++ {
		x := fp2.Small(n, 1)
		if y, ok := x.Square().Mul(x).Add(b).Sqrt(); ok {
			return g2.P{X: x, Y: y}
		}
	}
}

// numbers are how often points are taken: about what a hex digit, a byte, a word, the order and the curve's count hold, and more.
func numbers() []*big.Int {
	some := []*big.Int{}
	for n := range int64(40) {
		some = append(some, big.NewInt(n))
	}
	long := []*big.Int{new(big.Int).Lsh(big.NewInt(1), 8), new(big.Int).Lsh(big.NewInt(1), 64), order, new(big.Int).Lsh(order, 1), cofactor, all}
	for _, n := range long {
		for k := int64(-1); k <= 1; k++ {
			some = append(some, new(big.Int).Add(n, big.NewInt(k)))
		}
	}
	return append(some, new(big.Int).SetBytes(drawn(source(3), 40)), new(big.Int).SetBytes(bytes.Repeat([]byte{255}, 60)))
}

// P8.1: the generator is the one that is written down.
func TestGen(t *testing.T) {
	check(t, "Gen", g2.Gen(), generator())
	if g2.Gen() != g2.Gen() || g2.Gen() == (g2.P{}) {
		t.Error("Gen is not always the same point")
	}
}

// P8.1: P{} and the points of the curve are on it, in the group or not.
func TestOn(t *testing.T) {
	for _, a := range append(inside(), outside(t)...) {
		if !point(t, a).On() {
			t.Errorf("On of (%x, %x) is false", point(t, a).X.Bytes(), point(t, a).Y.Bytes())
		}
	}
}

// P8.1: no other is.
func TestOnBeside(t *testing.T) {
	for _, p := range beside(t) {
		if p.On() {
			t.Errorf("On of (%x, %x) is true", p.X.Bytes(), p.Y.Bytes())
		}
	}
}

// P8.2: Add and Sum of two, each point with each.
func TestAdd(t *testing.T) {
	some := append(inside(), outside(t)...)
	for _, a := range some {
		for _, b := range some {
			want := a.plus(b)
			check(t, "Add", point(t, a).Add(point(t, b)), want)
			check(t, "Sum of two", g2.Sum(point(t, a), point(t, b)), want)
		}
	}
}

// P8.2: a point and its negative come to nought.
func TestNeg(t *testing.T) {
	for _, a := range append(inside(), outside(t)...) {
		p := point(t, a)
		check(t, "Neg", p.Neg(), a.neg())
		check(t, "Add of Neg", p.Add(p.Neg()), spot{})
		check(t, "Neg of Neg", p.Neg().Neg(), a)
	}
}

// P8.2: the sum of none, of one, and of many, with the same ones among them, and some that come to nought.
func TestSum(t *testing.T) {
	if g2.Sum() != (g2.P{}) || g2.Sum([]g2.P{}...) != (g2.P{}) || g2.Sum(g2.P{}, g2.P{}) != (g2.P{}) {
		t.Error("the sum of none is not P{}")
	}
	some := append(inside(), outside(t)...)
	for _, a := range some {
		p := point(t, a)
		check(t, "Sum of one", g2.Sum(p), a)
		check(t, "Sum of thrice", g2.Sum(p, p, p), a.times(big.NewInt(3)))
		check(t, "Sum with nought within", g2.Sum(p, p, p.Neg(), p.Neg(), p), a)
	}
	from := source(4)
	for length := range 40 {
		terms, want := []g2.P{}, spot{}
		for range length {
			a := some[from.IntN(len(some))]
			terms, want = append(terms, point(t, a)), want.plus(a)
		}
		check(t, "Sum", g2.Sum(terms...), want)
	}
}

// P8.2: a great sum.
func TestSumLong(t *testing.T) {
	terms := slices.Repeat([]g2.P{g2.Gen(), g2.Gen().Neg(), {}, g2.Gen()}, 5000)
	check(t, "Sum", g2.Sum(terms...), generator().times(big.NewInt(5000)))
}

// P8.3: Times of points of the curve: what they are taken is not cut down by the group's order.
func TestTimes(t *testing.T) {
	if testing.Short() {
		t.Skip("takes seconds")
	}
	for _, a := range append(inside(), outside(t)...) {
		p := point(t, a)
		for _, n := range numbers() {
			want := a.times(n)
			check(t, "Times", p.Times(n.Bytes()), want)
			check(t, "Times behind zero bytes", p.Times(append(make([]byte, 3), n.Bytes()...)), want)
		}
	}
}

// P8.3: no bytes, and zero bytes, are nought.
func TestTimesNone(t *testing.T) {
	for _, a := range append(inside(), outside(t)...) {
		for _, k := range [][]byte{nil, {}, {0}, make([]byte, 100)} {
			check(t, "Times", point(t, a).Times(k), spot{})
		}
	}
}

// P8.3: the highest byte comes first.
func TestTimesOrder(t *testing.T) {
	check(t, "Times of 1, 2", g2.Gen().Times([]byte{1, 2}), generator().times(big.NewInt(258)))
}

// P8.3: many bytes: each point comes to nought as often as the curve has points.
func TestTimesLong(t *testing.T) {
	k := drawn(source(5), 3000)
	for _, a := range []spot{generator(), outside(t)[0], found(t, source(6))} {
		n := new(big.Int).SetBytes(k)
		check(t, "Times", point(t, a).Times(k), a.times(n.Mod(n, all)))
	}
}

// P8.3: Mul of points of the curve.
func TestMul(t *testing.T) {
	last := new(big.Int).Sub(order, big.NewInt(1))
	half := new(big.Int).Rsh(order, 1)
	scalars := []*big.Int{new(big.Int), big.NewInt(1), big.NewInt(2), big.NewInt(255), big.NewInt(256), half, last}
	for seed := range uint64(3) {
		n := new(big.Int).SetBytes(drawn(source(seed), 40))
		scalars = append(scalars, n.Mod(n, order))
	}
	for _, a := range append(inside(), outside(t)...) {
		for _, n := range scalars {
			check(t, "Mul", point(t, a).Mul(scalar(t, n)), a.times(n))
		}
	}
}

// P8.3: a scalar's sums and products are the points'.
func TestMulOfSums(t *testing.T) {
	g := g2.Gen()
	k, l := fr.Wide(drawn(source(7), 40)), fr.Wide(drawn(source(8), 40))
	if g.Mul(k).Add(g.Mul(l)) != g.Mul(k.Add(l)) || g.Mul(k).Mul(l) != g.Mul(k.Mul(l)) || g.Mul(k).Mul(k.Inv()) != g {
		t.Error("Mul does not go with the scalars")
	}
}

// P8.3: In is for those points of the curve that come to nought r times.
func TestIn(t *testing.T) {
	for _, a := range inside() {
		if !point(t, a).In() || !a.times(order).nought() {
			t.Errorf("In of (%x, %x) is false", point(t, a).X.Bytes(), point(t, a).Y.Bytes())
		}
	}
	for _, a := range outside(t) {
		if point(t, a).In() || a.times(order).nought() {
			t.Errorf("In of (%x, %x) is true", point(t, a).X.Bytes(), point(t, a).Y.Bytes())
		}
	}
	for _, prime := range []int64{13, 23, 2713, 11953, 262069} {
		a := ofOrder(t, prime)
		if point(t, a).In() || point(t, a.plus(generator())).In() {
			t.Errorf("In of a point of the order of prime %d is true", prime)
		}
	}
	if !found(t, source(9)).times(all).nought() || !point(t, found(t, source(9)).times(cofactor)).In() {
		t.Error("a point taken as often as the cofactor is not of the group")
	}
}

// P8.2, P8.3, rule 1: of other points each call ends.
func TestBeside(t *testing.T) {
	some := append(beside(t), g2.P{}, g2.Gen())
	for _, p := range some {
		p.Neg()
		p.In()
		p.Mul(fr.Of(1).Neg())
		for _, k := range [][]byte{nil, {0}, {1}, {2}, {3}, bytes.Repeat([]byte{255}, 50)} {
			p.Times(k)
		}
		for _, q := range some {
			p.Add(q)
			g2.Sum(p, q, p, q.Neg(), p.Neg())
		}
	}
	g2.Sum(some...)
}

// Rule 4: what is handed in is not changed, the room behind its end included; rule 6: the same again answers the same.
func TestArguments(t *testing.T) {
	g := g2.Gen()
	room := []g2.P{g, g.Neg(), g, {}, g.Add(g), g}
	kept := slices.Clone(room)
	first := g2.Sum(room[:4]...)
	if g2.Sum(room[:4]...) != first || !slices.Equal(room, kept) {
		t.Error("Sum changed what it was handed")
	}
	k := []byte{0, 5, 6, 7, 8, 9}
	same := bytes.Clone(k)
	if g.Times(k[:3]) != g.Times([]byte{5, 6}) || !bytes.Equal(k, same) {
		t.Error("Times changed what it was handed")
	}
}

func BenchmarkAdd(b *testing.B) {
	g := g2.Gen()
	h := g.Add(g)
	for range b.N {
		h = h.Add(g)
	}
}

func BenchmarkMul(b *testing.B) {
	g, k := g2.Gen(), fr.Wide(drawn(source(10), 40))
	for range b.N {
		g = g.Mul(k)
	}
}

func BenchmarkIn(b *testing.B) {
	for range b.N {
		g2.Gen().In()
	}
}
