package g1_test

import (
	"bytes"
	"math/big"
	"math/rand/v2"
	"slices"
	"testing"

	"cresset/api"
	"cresset/fp"
	"cresset/fr"
	"cresset/g1"
)

const (
	modulusHex = "1a0111ea397fe69a4b1ba7b6434bacd764774b84f38512bf6730d2a0f6b0f6241eabfffeb153ffffb9feffffffffaaab"
	orderHex   = "73eda753299d7d483339d80809a1d80553bda402fffe5bfeffffffff00000001"
	// cofactorHex times the order is how many points the curve has; it is 3 times the squares of 11, 10177, 859267 and 52437899.
	cofactorHex = "396c8c005555e1568c00aaab0000aaab"
	genXHex     = "17f1d3a73197d7942695638c4fa9ac0fc3688c4f9774b905a14e3a3f171bac586c55e83ff97a1aeffb3af00adb22c6bb"
	genYHex     = "08b3f481e3aaa0f1a09e30ed741d8ae4fcf5e095d5d00af600db18cb2c04b3edd03cc744a2888ae40caa232946c5e7e1"
)

var (
	modulus  = hex(modulusHex)
	order    = hex(orderHex)
	cofactor = hex(cofactorHex)
	all      = new(big.Int).Mul(order, cofactor)
)

// hex is the number that hex digits are.
func hex(digits string) *big.Int {
	n, ok := new(big.Int).SetString(digits, 16)
	if !ok {
		panic("no hex digits: " + digits)
	}
	return n
}

// in is a number modulo p.
func in(n *big.Int) *big.Int { return new(big.Int).Mod(n, modulus) }

func sum(x, y *big.Int) *big.Int        { return in(new(big.Int).Add(x, y)) }
func difference(x, y *big.Int) *big.Int { return in(new(big.Int).Sub(x, y)) }
func product(x, y *big.Int) *big.Int    { return in(new(big.Int).Mul(x, y)) }
func quotient(x, y *big.Int) *big.Int   { return product(x, new(big.Int).ModInverse(y, modulus)) }

// spot is a point by math/big: what the points are held against. The zero one is infinity.
type spot struct{ x, y *big.Int }

func (a spot) nought() bool { return a.x == nil }

func (a spot) same(b spot) bool {
	if a.nought() || b.nought() {
		return a.nought() && b.nought()
	}
	return a.x.Cmp(b.x) == 0 && a.y.Cmp(b.y) == 0
}

func (a spot) neg() spot {
	if a.nought() {
		return a
	}
	return spot{a.x, in(new(big.Int).Neg(a.y))}
}

// plus is a + b, by chords and tangents.
func (a spot) plus(b spot) spot {
	if a.nought() {
		return b
	}
	if b.nought() {
		return a
	}
	if a.same(b.neg()) {
		return spot{}
	}
	high, wide := difference(b.y, a.y), difference(b.x, a.x)
	if a.same(b) {
		high, wide = product(big.NewInt(3), product(a.x, a.x)), sum(a.y, a.y)
	}
	slope := quotient(high, wide)
	x := difference(difference(product(slope, slope), a.x), b.x)
	return spot{x, difference(product(slope, difference(a.x, x)), a.y)}
}

// times is a taken n times.
func (a spot) times(n *big.Int) spot {
	b := spot{}
	for i := n.BitLen() - 1; i >= 0; i-- {
		if b = b.plus(b); n.Bit(i) == 1 {
			b = b.plus(a)
		}
	}
	return b
}

// element is a number of layer 4 by Read.
func element(t testing.TB, n *big.Int) fp.El {
	t.Helper()
	var b [fp.Size]byte
	x, e := fp.Read(n.FillBytes(b[:]))
	if e != api.OK {
		t.Fatalf("fp.Read of %x: %d", n, e)
	}
	return x
}

// scalar is a number of layer 3 by Read.
func scalar(t testing.TB, n *big.Int) fr.El {
	t.Helper()
	var b [fr.Size]byte
	k, e := fr.Read(n.FillBytes(b[:]))
	if e != api.OK {
		t.Fatalf("fr.Read of %x: %d", n, e)
	}
	return k
}

// point is a spot as a point.
func point(t testing.TB, a spot) g1.P {
	t.Helper()
	if a.nought() {
		return g1.P{}
	}
	return g1.P{X: element(t, a.x), Y: element(t, a.y)}
}

// check holds a point against a spot.
func check(t *testing.T, what string, got g1.P, want spot) {
	t.Helper()
	if got != point(t, want) {
		t.Errorf("%s: (%x, %x), not (%x, %x)", what, got.X.Bytes(), got.Y.Bytes(), want.x, want.y)
	}
}

func generator() spot { return spot{hex(genXHex), hex(genYHex)} }

func source(seed uint64) *rand.Rand { return rand.New(rand.NewPCG(7, seed)) }

// drawn are as many bytes, the same ones each time.
func drawn(from *rand.Rand, count int) []byte {
	b := make([]byte, count)
	for i := range b {
		b[i] = byte(from.Uint32())
	}
	return b
}

// found is some point of the curve: hardly ever one of the group.
func found(from *rand.Rand) spot {
	for {
		x := in(new(big.Int).SetBytes(drawn(from, fp.Size+8)))
		square := sum(product(x, product(x, x)), big.NewInt(4))
		if y := new(big.Int).ModSqrt(square, modulus); y != nil {
			return spot{x, y}
		}
	}
}

// ofOrder is a point of the curve that comes to nought a prime number of times.
func ofOrder(t testing.TB, prime int64) spot {
	t.Helper()
	p := big.NewInt(prime)
	rest := new(big.Int).Set(all)
	for new(big.Int).Mod(rest, p).Sign() == 0 {
		rest.Div(rest, p)
	}
	from := source(uint64(prime))
	for range 20 {
		a := found(from).times(rest)
		for !a.nought() {
			b := a.times(p)
			if b.nought() {
				return a
			}
			a = b
		}
	}
	t.Fatalf("no point of order %d", prime)
	return spot{}
}

// inside are points of the group.
func inside() []spot {
	g := generator()
	some := []spot{{}, g, g.neg()}
	for _, n := range []*big.Int{big.NewInt(2), big.NewInt(3), hex("d201000000010000"), new(big.Int).SetBytes(drawn(source(1), 32))} {
		some = append(some, g.times(n), g.times(n).neg())
	}
	return some
}

// outside are points of the curve that are not of the group: of small orders, some, and such ones with one of the group.
func outside(t testing.TB) []spot {
	three := spot{new(big.Int), big.NewInt(2)}
	eleven := ofOrder(t, 11)
	from := source(2)
	some := []spot{three, three.neg(), eleven, eleven.neg(), eleven.times(big.NewInt(5)), ofOrder(t, 10177), ofOrder(t, 859267)}
	some = append(some, generator().plus(three), generator().plus(eleven), generator().neg().plus(three))
	return append(some, found(from), found(from))
}

// beside are points that are none of the curve.
func beside(t testing.TB) []g1.P {
	g := g1.Gen()
	return []g1.P{
		{X: g.X, Y: g.X}, {X: g.Y, Y: g.X}, {X: g.X}, {Y: g.Y}, {X: g.X.Neg(), Y: g.Y},
		{X: g.X, Y: g.Y.Add(fp.Of(1))}, {X: g.X.Add(fp.Of(1)), Y: g.Y},
		{X: fp.Of(0), Y: fp.Of(4)}, {X: fp.Of(0), Y: fp.Of(1)}, {X: fp.Of(1), Y: fp.Of(1)}, {X: fp.Of(1)},
		// of y squared = x cubed + 5, + 3 and - 4
		{X: fp.Of(0).Sub(fp.Of(1)), Y: fp.Of(2)}, {X: fp.Of(1), Y: fp.Of(2)}, {X: fp.Of(2), Y: fp.Of(2)},
	}
}

// numbers are how often points are taken: about what a hex digit, a byte, a word, the order and the curve's count hold, and more.
func numbers() []*big.Int {
	some := []*big.Int{}
	for n := range int64(40) {
		some = append(some, big.NewInt(n))
	}
	long := []*big.Int{new(big.Int).Lsh(big.NewInt(1), 8), new(big.Int).Lsh(big.NewInt(1), 64), order, new(big.Int).Lsh(order, 1), cofactor, all}
	for _, n := range long {
		for k := int64(-1); k <= 1; k++ {
			some = append(some, new(big.Int).Add(n, big.NewInt(k)))
		}
	}
	return append(some, new(big.Int).SetBytes(drawn(source(3), 40)), new(big.Int).SetBytes(bytes.Repeat([]byte{255}, 60)))
}

// P7.1: the generator is the one that is written down.
func TestGen(t *testing.T) {
	check(t, "Gen", g1.Gen(), generator())
	if g1.Gen() != g1.Gen() || g1.Gen() == (g1.P{}) {
		t.Error("Gen is not always the same point")
	}
}

// P7.1: P{} and the points of the curve are on it, in the group or not.
func TestOn(t *testing.T) {
	for _, a := range append(inside(), outside(t)...) {
		if !point(t, a).On() {
			t.Errorf("On of (%x, %x) is false", a.x, a.y)
		}
	}
}

// P7.1: no other is.
func TestOnBeside(t *testing.T) {
	for _, p := range beside(t) {
		if p.On() {
			t.Errorf("On of (%x, %x) is true", p.X.Bytes(), p.Y.Bytes())
		}
	}
}

// P7.2: Add and Sum of two, each point with each.
func TestAdd(t *testing.T) {
	some := append(inside(), outside(t)...)
	for _, a := range some {
		for _, b := range some {
			want := a.plus(b)
			check(t, "Add", point(t, a).Add(point(t, b)), want)
			check(t, "Sum of two", g1.Sum(point(t, a), point(t, b)), want)
		}
	}
}

// P7.2: a point and its negative come to nought.
func TestNeg(t *testing.T) {
	for _, a := range append(inside(), outside(t)...) {
		p := point(t, a)
		check(t, "Neg", p.Neg(), a.neg())
		check(t, "Add of Neg", p.Add(p.Neg()), spot{})
		check(t, "Neg of Neg", p.Neg().Neg(), a)
	}
}

// P7.2: the sum of none, of one, and of many, with the same ones among them, and some that come to nought.
func TestSum(t *testing.T) {
	if g1.Sum() != (g1.P{}) || g1.Sum([]g1.P{}...) != (g1.P{}) || g1.Sum(g1.P{}, g1.P{}) != (g1.P{}) {
		t.Error("the sum of none is not P{}")
	}
	some := append(inside(), outside(t)...)
	for _, a := range some {
		p := point(t, a)
		check(t, "Sum of one", g1.Sum(p), a)
		check(t, "Sum of thrice", g1.Sum(p, p, p), a.times(big.NewInt(3)))
		check(t, "Sum with nought within", g1.Sum(p, p, p.Neg(), p.Neg(), p), a)
	}
	from := source(4)
	for length := range 40 {
		terms, want := []g1.P{}, spot{}
		for range length {
			a := some[from.IntN(len(some))]
			terms, want = append(terms, point(t, a)), want.plus(a)
		}
		check(t, "Sum", g1.Sum(terms...), want)
	}
}

// P7.2: a great sum.
func TestSumLong(t *testing.T) {
	terms := slices.Repeat([]g1.P{g1.Gen(), g1.Gen().Neg(), {}, g1.Gen()}, 5000)
	check(t, "Sum", g1.Sum(terms...), generator().times(big.NewInt(5000)))
}

// P7.3: Times of points of the curve: what they are taken is not cut down by the group's order.
func TestTimes(t *testing.T) {
	for _, a := range append(inside(), outside(t)...) {
		p := point(t, a)
		for _, n := range numbers() {
			want := a.times(n)
			check(t, "Times", p.Times(n.Bytes()), want)
			check(t, "Times behind zero bytes", p.Times(append(make([]byte, 3), n.Bytes()...)), want)
		}
	}
}

// P7.3: no bytes, and zero bytes, are nought.
func TestTimesNone(t *testing.T) {
	for _, a := range append(inside(), outside(t)...) {
		for _, k := range [][]byte{nil, {}, {0}, make([]byte, 100)} {
			check(t, "Times", point(t, a).Times(k), spot{})
		}
	}
}

// P7.3: the highest byte comes first.
func TestTimesOrder(t *testing.T) {
	check(t, "Times of 1, 2", g1.Gen().Times([]byte{1, 2}), generator().times(big.NewInt(258)))
}

// P7.3: many bytes: each point comes to nought as often as the curve has points.
func TestTimesLong(t *testing.T) {
	k := drawn(source(5), 3000)
	for _, a := range []spot{generator(), outside(t)[0], found(source(6))} {
		n := new(big.Int).SetBytes(k)
		check(t, "Times", point(t, a).Times(k), a.times(n.Mod(n, all)))
	}
}

// P7.3: Mul of points of the curve.
func TestMul(t *testing.T) {
	last := new(big.Int).Sub(order, big.NewInt(1))
	half := new(big.Int).Rsh(order, 1)
	scalars := []*big.Int{new(big.Int), big.NewInt(1), big.NewInt(2), big.NewInt(255), big.NewInt(256), half, last}
	for seed := range uint64(3) {
		n := new(big.Int).SetBytes(drawn(source(seed), 40))
		scalars = append(scalars, n.Mod(n, order))
	}
	for _, a := range append(inside(), outside(t)...) {
		for _, n := range scalars {
			check(t, "Mul", point(t, a).Mul(scalar(t, n)), a.times(n))
		}
	}
}

// P7.3: a scalar's sums and products are the points'.
func TestMulOfSums(t *testing.T) {
	g := g1.Gen()
	k, l := fr.Wide(drawn(source(7), 40)), fr.Wide(drawn(source(8), 40))
	if g.Mul(k).Add(g.Mul(l)) != g.Mul(k.Add(l)) || g.Mul(k).Mul(l) != g.Mul(k.Mul(l)) || g.Mul(k).Mul(k.Inv()) != g {
		t.Error("Mul does not go with the scalars")
	}
}

// P7.3: In is for those points of the curve that come to nought r times.
func TestIn(t *testing.T) {
	for _, a := range inside() {
		if !point(t, a).In() || !a.times(order).nought() {
			t.Errorf("In of (%x, %x) is false", a.x, a.y)
		}
	}
	for _, a := range outside(t) {
		if point(t, a).In() || a.times(order).nought() {
			t.Errorf("In of (%x, %x) is true", a.x, a.y)
		}
	}
	for _, prime := range []int64{3, 11, 10177, 859267, 52437899} {
		a := ofOrder(t, prime)
		if point(t, a).In() || point(t, a.plus(generator())).In() {
			t.Errorf("In of a point of the order of prime %d is true", prime)
		}
	}
	if !found(source(9)).times(all).nought() || !point(t, found(source(9)).times(cofactor)).In() {
		t.Error("a point taken as often as the cofactor is not of the group")
	}
}

// P7.2, P7.3, rule 1: of other points each call ends.
func TestBeside(t *testing.T) {
	some := append(beside(t), g1.P{}, g1.Gen())
	for _, p := range some {
		p.Neg()
		p.In()
		p.Mul(fr.Of(1).Neg())
		for _, k := range [][]byte{nil, {0}, {1}, {2}, {3}, bytes.Repeat([]byte{255}, 50)} {
			p.Times(k)
		}
		for _, q := range some {
			p.Add(q)
			g1.Sum(p, q, p, q.Neg(), p.Neg())
		}
	}
	g1.Sum(some...)
}

// Rule 4: what is handed in is not changed, the room behind its end included; rule 6: the same again answers the same.
func TestArguments(t *testing.T) {
	g := g1.Gen()
	room := []g1.P{g, g.Neg(), g, {}, g.Add(g), g}
	kept := slices.Clone(room)
	first := g1.Sum(room[:4]...)
	if g1.Sum(room[:4]...) != first || !slices.Equal(room, kept) {
		t.Error("Sum changed what it was handed")
	}
	k := []byte{0, 5, 6, 7, 8, 9}
	same := bytes.Clone(k)
	if g.Times(k[:3]) != g.Times([]byte{5, 6}) || !bytes.Equal(k, same) {
		t.Error("Times changed what it was handed")
	}
}

func BenchmarkAdd(b *testing.B) {
	g := g1.Gen()
	h := g.Add(g)
	for range b.N {
		h = h.Add(g)
	}
}

func BenchmarkMul(b *testing.B) {
	g, k := g1.Gen(), fr.Wide(drawn(source(10), 40))
	for range b.N {
		g = g.Mul(k)
	}
}

func BenchmarkIn(b *testing.B) {
	for range b.N {
		g1.Gen().In()
	}
}
