package pairing_test

import (
	"math/big"
	"math/rand/v2"
	"slices"
	"testing"

	"cresset/api"
	"cresset/fp"
	"cresset/fp2"
	"cresset/fr"
	"cresset/g1"
	"cresset/g2"
	"cresset/pairing"
	"cresset/tower"
)

var (
	modulus = hex("1a0111ea397fe69a4b1ba7b6434bacd764774b84f38512bf6730d2a0f6b0f6241eabfffeb153ffffb9feffffffffaaab")
	order   = hex("73eda753299d7d483339d80809a1d80553bda402fffe5bfeffffffff00000001")
	// parameter is the curve's, without its sign.
	parameter = hex("d201000000010000")
)

// hex is the number that hex digits are.
func hex(digits string) *big.Int {
	n, ok := new(big.Int).SetString(digits, 16)
	if !ok {
		panic("no hex digits: " + digits)
	}
	return n
}

func source(seed uint64) *rand.Rand { return rand.New(rand.NewPCG(10, seed)) }

// drawn is some scalar, the same one each time.
func drawn(from *rand.Rand) fr.El {
	b := make([]byte, fr.Size+8)
	for i := range b {
		b[i] = byte(from.Uint32())
	}
	return fr.Wide(b)
}

// scalar is a number modulo r as a scalar.
func scalar(t testing.TB, n *big.Int) fr.El {
	t.Helper()
	var b [fr.Size]byte
	k, e := fr.Read(n.Mod(n, order).FillBytes(b[:]))
	if e != api.OK {
		t.Fatalf("fr.Read of %x: %d", n, e)
	}
	return k
}

// scalars are the edges, and some others.
func scalars(from *rand.Rand) []fr.El {
	one := fr.Of(1)
	all := []fr.El{{}, one, fr.Of(2), one.Neg(), one.Neg().Add(one.Neg()), fr.Of(1 << 63), fr.Wide(parameter.Bytes()), fr.Wide(parameter.Bytes()).Neg()}
	return append(all, drawn(from), drawn(from))
}

// raised is x to the power of a scalar.
func raised(x tower.El, k fr.El) tower.El {
	b := k.Bytes()
	return x.Power(b[:])
}

// spot is a point of the curve y squared = x cubed + 4 over the field of the twelfth degree, in which both groups lie.
type spot struct{ x, y tower.El }

func add(x, y tower.El) tower.El { return tower.El{A: x.A.Add(y.A), B: x.B.Add(y.B)} }
func sub(x, y tower.El) tower.El { return tower.El{A: x.A.Sub(y.A), B: x.B.Sub(y.B)} }

// flat is a number of layer 5 in the tower.
func flat(x fp2.El) tower.El { return tower.El{A: tower.Cubic{A: x}} }

func firstSpot(p g1.P) spot { return spot{flat(fp2.Of(p.X)), flat(fp2.Of(p.Y))} }

// secondSpot is a point of the second curve by w squared and by w cubed.
func secondSpot(q g2.P) spot {
	w := tower.El{B: tower.Cubic{A: fp2.Small(1, 0)}}.Inv()
	return spot{flat(q.X).Mul(w.Square()), flat(q.Y).Mul(w.Square()).Mul(w)}
}

// line is the slope of the line through a and b, or of the tangent at both, and its value at p.
func line(a, b, p spot) (slope, value tower.El) {
	high, wide := sub(b.y, a.y), sub(b.x, a.x)
	if a == b {
		square := a.x.Square()
		high, wide = add(square, add(square, square)), add(a.y, a.y)
	}
	slope = high.Mul(wide.Inv())
	return slope, sub(sub(p.y, a.y), slope.Mul(sub(p.x, a.x)))
}

// sum is a + b, by the line through them.
func sum(a, b spot, slope tower.El) spot {
	x := sub(sub(slope.Square(), a.x), b.x)
	return spot{x, sub(slope.Mul(sub(a.x, x)), a.y)}
}

// plain is the ate pairing as it is defined, to the power (p^12 - 1) / r: points of the twelfth degree, no shortened lines, no shortened power.
func plain(p g1.P, q g2.P) tower.El {
	at, from := firstSpot(p), secondSpot(q)
	f, to := tower.One(), from
	for i := parameter.BitLen() - 2; i >= 0; i-- {
		slope, value := line(to, to, at)
		f, to = f.Square().Mul(value), sum(to, to, slope)
		if parameter.Bit(i) == 1 {
			slope, value = line(to, from, at)
			f, to = f.Mul(value), sum(to, from, slope)
		}
	}
	exponent := new(big.Int).Exp(modulus, big.NewInt(12), nil)
	exponent.Sub(exponent, big.NewInt(1)).Div(exponent, order)
	// The parameter is negative.
	return f.Inv().Power(exponent.Bytes())
}

// P10.1: the pairing is one of those that the chapter names: the plain one, or its third power.
func TestPlain(t *testing.T) {
	from := source(1)
	for range 2 {
		p, q := g1.Gen().Mul(drawn(from)), g2.Gen().Mul(drawn(from))
		want := plain(p, q)
		if got := pairing.Pair(p, q); got != want && got != want.Square().Mul(want) {
			t.Errorf("another pairing of %x and %x", p.X.Bytes(), q.X.Bytes())
		}
	}
}

// P10.1: sums come to products, on both sides; P{} too.
func TestSums(t *testing.T) {
	from := source(2)
	ps, qs := []g1.P{{}, g1.Gen(), g1.Gen().Neg()}, []g2.P{{}, g2.Gen(), g2.Gen().Neg()}
	for range 2 {
		ps, qs = append(ps, g1.Gen().Mul(drawn(from))), append(qs, g2.Gen().Mul(drawn(from)))
	}
	p, q := ps[4], qs[4]
	for i := range ps {
		for k := range ps {
			if pairing.Pair(ps[i].Add(ps[k]), q) != pairing.Pair(ps[i], q).Mul(pairing.Pair(ps[k], q)) {
				t.Errorf("the sum of points %d and %d of the first group", i, k)
			}
			if pairing.Pair(p, qs[i].Add(qs[k])) != pairing.Pair(p, qs[i]).Mul(pairing.Pair(p, qs[k])) {
				t.Errorf("the sum of points %d and %d of the second group", i, k)
			}
		}
	}
}

// P10.1: Pair of a times p and b times q is Pair(p, q) to the power a b.
func TestPowers(t *testing.T) {
	from := source(3)
	p, q := g1.Gen().Mul(drawn(from)), g2.Gen().Mul(drawn(from))
	f := pairing.Pair(p, q)
	for _, a := range scalars(from) {
		for _, b := range scalars(from) {
			want := raised(f, a.Mul(b))
			if pairing.Pair(p.Mul(a), q.Mul(b)) != want || pairing.Pair(p.Mul(b), q.Mul(a)) != want {
				t.Errorf("a %x, b %x", a.Bytes(), b.Bytes())
			}
		}
	}
}

// P10.1: the r-th power is 1; it is 1 itself just if p or q is P{}.
func TestOrder(t *testing.T) {
	from := source(4)
	for _, a := range scalars(from) {
		for _, b := range scalars(from) {
			f := pairing.Pair(g1.Gen().Mul(a), g2.Gen().Mul(b))
			if f.Power(order.Bytes()) != tower.One() {
				t.Errorf("a %x, b %x: the r-th power", a.Bytes(), b.Bytes())
			}
			if (f == tower.One()) != (a.Zero() || b.Zero()) {
				t.Errorf("a %x, b %x: whether it is 1", a.Bytes(), b.Bytes())
			}
		}
	}
	for _, f := range []tower.El{pairing.Pair(g1.P{}, g2.P{}), pairing.Pair(g1.P{}, g2.Gen()), pairing.Pair(g1.Gen(), g2.P{})} {
		if f != tower.One() {
			t.Error("Pair of P{} is not 1")
		}
	}
}

// P10.1: it is always the same map: nothing that was paired before changes it.
func TestSame(t *testing.T) {
	p, q := g1.Gen().Mul(fr.Of(5)), g2.Gen().Mul(fr.Of(7))
	f := pairing.Pair(p, q)
	pairing.Pair(g1.Gen(), g2.Gen())
	pairing.Pair(g1.P{}, q)
	pairing.Pair(g1.P{X: fp.Of(3)}, g2.P{X: fp2.Small(3, 4)})
	if pairing.Pair(p, q) != f {
		t.Error("another answer the second time")
	}
}

// P10.2: the lists' lengths; none is 1.
func TestCheckLengths(t *testing.T) {
	ps := []g1.P{{}, {}, g1.Gen(), {}}
	qs := []g2.P{{}, g2.Gen(), {}, {}}
	for i := range len(ps) + 1 {
		for k := range len(qs) + 1 {
			// All pairings of these are 1: the lengths alone tell.
			if pairing.Check(ps[:i], qs[:k]) != (i == k) {
				t.Errorf("%d and %d points", i, k)
			}
		}
	}
	if !pairing.Check(nil, nil) || !pairing.Check(nil, []g2.P{}) || !pairing.Check([]g1.P{}, nil) {
		t.Error("of none")
	}
	if pairing.Check(nil, qs[:1]) || pairing.Check(ps[:1], nil) {
		t.Error("one list of none")
	}
}

// P10.2: whether the product is 1, as Pair has it: with scalars whose products come to nought, and to nearly that.
func TestCheck(t *testing.T) {
	from := source(5)
	for count := 1; count <= 6; count++ {
		var ps []g1.P
		var qs []g2.P
		product, left := tower.One(), fr.El{}
		for range count {
			a, b := drawn(from), drawn(from)
			left = left.Sub(a.Mul(b))
			ps, qs = append(ps, g1.Gen().Mul(a)), append(qs, g2.Gen().Mul(b))
			product = product.Mul(pairing.Pair(ps[len(ps)-1], qs[len(qs)-1]))
		}
		if product == tower.One() || pairing.Check(ps, qs) {
			t.Errorf("%d pairs that come to something", count)
		}
		for at := range count + 1 {
			fit := func(p g1.P, q g2.P) bool {
				return pairing.Check(slices.Insert(slices.Clone(ps), at, p), slices.Insert(slices.Clone(qs), at, q))
			}
			if !fit(g1.Gen().Mul(left), g2.Gen()) || !fit(g1.Gen(), g2.Gen().Mul(left)) {
				t.Errorf("%d pairs, and at %d what makes them 1", count, at)
			}
			if fit(g1.Gen().Mul(left), g2.Gen().Neg()) || fit(g1.Gen().Mul(left.Add(fr.Of(1))), g2.Gen()) || fit(g1.P{}, g2.Gen()) || fit(g1.Gen(), g2.P{}) {
				t.Errorf("%d pairs, and at %d what doesn't make them 1", count, at)
			}
		}
	}
}

// P10.2: one pair alone; the same pair r times; the same pair and its negatives.
func TestCheckOne(t *testing.T) {
	p, q := g1.Gen(), g2.Gen()
	if pairing.Check([]g1.P{p}, []g2.P{q}) || !pairing.Check([]g1.P{{}}, []g2.P{q}) || !pairing.Check([]g1.P{p}, []g2.P{{}}) || !pairing.Check([]g1.P{{}}, []g2.P{{}}) {
		t.Error("of one pair")
	}
	if !pairing.Check([]g1.P{p, p.Neg()}, []g2.P{q, q}) || !pairing.Check([]g1.P{p, p}, []g2.P{q, q.Neg()}) || pairing.Check([]g1.P{p, p.Neg()}, []g2.P{q, q.Neg()}) {
		t.Error("of a pair and its negatives")
	}
	third := fr.Of(3).Neg()
	if !pairing.Check([]g1.P{p, p, p, p.Mul(third)}, []g2.P{q, q, q, q}) {
		t.Error("of one pair three times")
	}
}

// P10.2: what is handed in stays, the room behind it too.
func TestCheckKeeps(t *testing.T) {
	ps := []g1.P{g1.Gen(), {}, g1.Gen().Neg(), g1.Gen()}
	qs := []g2.P{g2.Gen(), g2.Gen(), g2.Gen(), g2.Gen().Neg()}
	keptPs, keptQs := slices.Clone(ps), slices.Clone(qs)
	if !pairing.Check(ps[:3], qs[:3]) {
		t.Error("the product is 1")
	}
	if !slices.Equal(ps, keptPs) || !slices.Equal(qs, keptQs) {
		t.Error("Check has changed what it was handed")
	}
}

// P10.1, P10.2: of points that are not of their groups the calls end.
func TestElsewhere(t *testing.T) {
	numbers := []fp.El{{}, fp.Of(1), fp.Of(2), fp.Of(1).Neg()}
	var ps []g1.P
	var qs []g2.P
	for _, x := range numbers {
		for _, y := range numbers {
			ps = append(ps, g1.P{X: x, Y: y})
			qs = append(qs, g2.P{X: fp2.El{A: x, B: y}, Y: fp2.El{A: y}}, g2.P{X: fp2.El{B: x}, Y: fp2.El{B: y}})
		}
	}
	for i := range ps {
		pairing.Pair(ps[i], g2.Gen())
		pairing.Pair(ps[i], qs[i])
	}
	for _, q := range qs {
		pairing.Pair(g1.Gen(), q)
	}
	pairing.Check(ps, qs[:len(ps)])
	pairing.Check(ps, qs)
}

// The last power may be taken as the chapter's third one: the numbers that it stands on.
func TestExponent(t *testing.T) {
	one := big.NewInt(1)
	power := func(n *big.Int, k int64) *big.Int { return new(big.Int).Exp(n, big.NewInt(k), nil) }
	// p^4 - p^2 + 1.
	part := power(modulus, 4)
	part.Sub(part, power(modulus, 2)).Add(part, one)
	all := power(modulus, 6)
	all.Sub(all, one).Mul(all, new(big.Int).Add(power(modulus, 2), one)).Mul(all, part)
	if all.Cmp(new(big.Int).Sub(power(modulus, 12), one)) != 0 {
		t.Error("p^12 - 1 has other parts")
	}
	rest := new(big.Int)
	part.DivMod(part, order, rest)
	if rest.Sign() != 0 {
		t.Error("r is no part of p^4 - p^2 + 1")
	}
	z := parameter
	long := power(new(big.Int).Add(z, one), 2)
	long.Mul(long, new(big.Int).Sub(modulus, z))
	last := new(big.Int).Add(power(modulus, 2), power(z, 2))
	long.Mul(long, last.Sub(last, one)).Add(long, big.NewInt(3))
	if long.Cmp(part.Mul(part, big.NewInt(3))) != 0 {
		t.Error("the parameter's powers make another power")
	}
}

func BenchmarkPair(b *testing.B) {
	p, q := g1.Gen(), g2.Gen()
	for b.Loop() {
		pairing.Pair(p, q)
	}
}

func BenchmarkCheck(b *testing.B) {
	ps, qs := []g1.P{g1.Gen(), g1.Gen().Neg()}, []g2.P{g2.Gen(), g2.Gen()}
	for b.Loop() {
		pairing.Check(ps, qs)
	}
}
