package tower_test

import (
	"bytes"
	"math/big"
	"math/rand/v2"
	"testing"

	"cresset/fp"
	"cresset/fp2"
	"cresset/tower"
)

const (
	modulusHex = "1a0111ea397fe69a4b1ba7b6434bacd764774b84f38512bf6730d2a0f6b0f6241eabfffeb153ffffb9feffffffffaaab"
	degree     = 12
)

var modulus, _ = new(big.Int).SetString(modulusHex, 16)

// line is a number of the tower as it is held against it: by math/big, a sum of powers of w alone. As w to the power 6 is 1 + i, i is w^6 - 1, and as that squared is -1, w^12 is 2 w^6 - 2.
type line [degree]*big.Int

func zero() line {
	var x line
	for i := range x {
		x[i] = new(big.Int)
	}
	return x
}

func one() line {
	x := zero()
	x[0].SetInt64(1)
	return x
}

func (x line) add(y line) line {
	z := zero()
	for i := range z {
		z[i].Mod(z[i].Add(x[i], y[i]), modulus)
	}
	return z
}

func (x line) sub(y line) line {
	z := zero()
	for i := range z {
		z[i].Mod(z[i].Sub(x[i], y[i]), modulus)
	}
	return z
}

func (x line) mul(y line) line {
	var long [2*degree - 1]*big.Int
	for i := range long {
		long[i] = new(big.Int)
	}
	for i := range x {
		for k := range y {
			long[i+k].Add(long[i+k], new(big.Int).Mul(x[i], y[k]))
		}
	}
	for i := len(long) - 1; i >= degree; i-- {
		double := new(big.Int).Lsh(long[i], 1)
		long[i-6].Add(long[i-6], double)
		long[i-12].Sub(long[i-12], double)
	}
	z := zero()
	for i := range z {
		z[i].Mod(long[i], modulus)
	}
	return z
}

func (x line) power(n *big.Int) line {
	y := one()
	for i := n.BitLen() - 1; i >= 0; i-- {
		if y = y.mul(y); n.Bit(i) == 1 {
			y = y.mul(x)
		}
	}
	return y
}

func (x line) same(y line) bool {
	for i := range x {
		if x[i].Cmp(y[i]) != 0 {
			return false
		}
	}
	return true
}

// flat is a number of the tower as a sum of powers of w: a + b i beside w^k is a - b beside w^k and b beside w^(k+6).
func flat(x tower.El) line {
	z := zero()
	for k, c := range [6]fp2.El{x.A.A, x.B.A, x.A.B, x.B.B, x.A.C, x.B.C} {
		a, b := c.A.Bytes(), c.B.Bytes()
		z[k+6].SetBytes(b[:])
		z[k].Mod(z[k].Sub(z[k].SetBytes(a[:]), z[k+6]), modulus)
	}
	return z
}

// whole is a Cubic as a number of the tower.
func whole(x tower.Cubic) tower.El { return tower.El{A: x} }

// check holds a number of the tower against a sum of powers.
func check(t *testing.T, what string, got tower.El, want line) {
	t.Helper()
	if !flat(got).same(want) {
		t.Errorf("%s: %x, not %x", what, flat(got), want)
	}
}

// cubics are numbers of which each part is 0, 1, -1, or any: those with parts that are 0 as well as full ones.
func cubics(source *rand.Rand) []tower.Cubic {
	all := []tower.Cubic{{}, {A: fp2.Small(1, 0)}, {B: fp2.Small(1, 0)}, {C: fp2.Small(1, 0)}, {A: fp2.Small(1, 0).Neg(), B: fp2.Small(0, 1), C: fp2.Small(0, 1).Neg()}}
	for parts := 1; parts < 8; parts++ {
		var x tower.Cubic
		if parts&1 != 0 {
			x.A = drawn(source)
		}
		if parts&2 != 0 {
			x.B = drawn(source)
		}
		if parts&4 != 0 {
			x.C = drawn(source)
		}
		all = append(all, x)
	}
	return all
}

// elements are pairs of cubics.
func elements(source *rand.Rand) []tower.El {
	all := []tower.El{}
	for _, a := range cubics(source) {
		for _, b := range cubics(source) {
			all = append(all, tower.El{A: a, B: b})
		}
	}
	return all
}

// some are fewer of them: 0, 1, w, a full one, and some with parts that are 0.
func some(source *rand.Rand) []tower.El {
	full := tower.El{A: tower.Cubic{A: drawn(source), B: drawn(source), C: drawn(source)}, B: tower.Cubic{A: drawn(source), B: drawn(source), C: drawn(source)}}
	minus := tower.El{A: tower.Cubic{A: fp2.Small(1, 0).Neg()}}
	return []tower.El{{}, tower.One(), minus, {B: tower.Cubic{A: fp2.Small(1, 0)}}, full, {A: full.A}, {B: full.B}, {A: tower.Cubic{C: full.A.C}, B: tower.Cubic{B: full.B.B}}}
}

func drawn(source *rand.Rand) fp2.El {
	var b [2 * fp2.Size]byte
	for i := range b {
		b[i] = byte(source.Uint32())
	}
	return fp2.El{A: fp.Wide(b[:fp2.Size]), B: fp.Wide(b[fp2.Size:])}
}

func source(seed uint64) *rand.Rand { return rand.New(rand.NewPCG(6, seed)) }

// w is what the tower is made of.
func w() tower.El { return tower.El{B: tower.Cubic{A: fp2.Small(1, 0)}} }

// P6.1: what v and w are: v cubed is 1 + i, w squared is v.
func TestGenerators(t *testing.T) {
	v := tower.Cubic{B: fp2.Small(1, 0)}
	if v.Mul(v) != (tower.Cubic{C: fp2.Small(1, 0)}) || v.Mul(v).Mul(v) != (tower.Cubic{A: fp2.Small(1, 1)}) {
		t.Error("powers of v")
	}
	if w().Mul(w()) != whole(v) || w().Square() != whole(v) || w().Power([]byte{6}) != whole(tower.Cubic{A: fp2.Small(1, 1)}) {
		t.Error("powers of w")
	}
	check(t, "One", tower.One(), one())
	if tower.One() != whole(tower.Cubic{A: fp2.Small(1, 0)}) {
		t.Error("One is not 1")
	}
}

// P6.1: what is reckoned with two Cubics, each with each.
func TestCubicTwo(t *testing.T) {
	for _, x := range cubics(source(1)) {
		for _, y := range append(cubics(source(2)), x) {
			f, g := flat(whole(x)), flat(whole(y))
			check(t, "Add", whole(x.Add(y)), f.add(g))
			check(t, "Sub", whole(x.Sub(y)), f.sub(g))
			check(t, "Mul", whole(x.Mul(y)), f.mul(g))
			if x.Mul(y) != y.Mul(x) || x.Add(y) != y.Add(x) || x.Add(y).Sub(y) != x {
				t.Errorf("%x and %x: a number has two forms", f, g)
			}
		}
	}
}

// P6.1: Shift is times v; Inv is the number that times x is 1, of 0 it is 0.
func TestCubicOne(t *testing.T) {
	v := tower.Cubic{B: fp2.Small(1, 0)}
	unit := tower.Cubic{A: fp2.Small(1, 0)}
	for _, x := range append(cubics(source(3)), v, unit) {
		f := flat(whole(x))
		check(t, "Shift", whole(x.Shift()), f.mul(flat(whole(v))))
		if x.Shift() != x.Mul(v) {
			t.Errorf("%x: Shift is not times v", f)
		}
		if x == (tower.Cubic{}) {
			if x.Inv() != x {
				t.Error("Inv of 0")
			}
			continue
		}
		if x.Mul(x.Inv()) != unit || !f.mul(flat(whole(x.Inv()))).same(one()) {
			t.Errorf("%x: times Inv is not 1", f)
		}
	}
}

// P6.1: Mul, each with each.
func TestMul(t *testing.T) {
	others := some(source(4))
	for _, x := range elements(source(5)) {
		for _, y := range others {
			check(t, "Mul", x.Mul(y), flat(x).mul(flat(y)))
			check(t, "Mul the other way", y.Mul(x), flat(x).mul(flat(y)))
		}
		if x.Mul(tower.One()) != x || x.Mul(tower.El{}) != (tower.El{}) {
			t.Errorf("%x times 1 or 0", flat(x))
		}
	}
}

// P6.1: Square, Conj and Inv.
func TestOne(t *testing.T) {
	for _, x := range elements(source(6)) {
		f := flat(x)
		check(t, "Square", x.Square(), f.mul(f))
		conj := x.Conj()
		if conj.A != x.A || conj.B != (tower.Cubic{}).Sub(x.B) {
			t.Errorf("%x: Conj is %x", f, flat(conj))
		}
		if x == (tower.El{}) {
			if x.Inv() != x {
				t.Error("Inv of 0")
			}
			continue
		}
		if x.Mul(x.Inv()) != tower.One() || !f.mul(flat(x.Inv())).same(one()) || x.Inv().Inv() != x {
			t.Errorf("%x: times Inv is not 1", f)
		}
	}
}

// P6.1: Line is times a + b v + c v w, also where some of them are 0.
func TestLine(t *testing.T) {
	from := source(7)
	for _, x := range append(some(from), elements(from)[:30]...) {
		for _, c := range cubics(from) {
			y := tower.El{A: tower.Cubic{A: c.A, B: c.B}, B: tower.Cubic{B: c.C}}
			check(t, "Line", x.Line(c.A, c.B, c.C), flat(x).mul(flat(y)))
		}
	}
}

// P6.2: Root is the power that the chapter names, by math/big.
func TestRoot(t *testing.T) {
	exponent := new(big.Int).Sub(modulus, big.NewInt(1))
	rest := new(big.Int)
	if exponent.DivMod(exponent, big.NewInt(6), rest); rest.Sign() != 0 {
		t.Fatal("p - 1 is no multiple of 6")
	}
	base := flat(whole(tower.Cubic{A: fp2.Small(1, 1)}))
	check(t, "Root", whole(tower.Cubic{A: tower.Root()}), base.power(exponent))
	r := tower.Root()
	if r.Square().Mul(r).Square().Mul(fp2.Small(1, 1)) != fp2.Small(1, 1).Conj() {
		t.Error("Root to the power 6 is not (1 - i) / (1 + i)")
	}
	if tower.Root() != r {
		t.Error("Root is another one the second time")
	}
}

// P6.2: Frob is the power p, by math/big and by Power.
func TestFrob(t *testing.T) {
	for _, x := range append(some(source(8)), w(), w().Power([]byte{5})) {
		check(t, "Frob", x.Frob(), flat(x).power(modulus))
		if x.Frob() != x.Power(modulus.Bytes()) {
			t.Errorf("%x: Frob is not Power of p", flat(x))
		}
	}
}

// P6.2: six times Frob is Conj, and twelve times x itself; it goes through sums and products.
func TestFrobAgain(t *testing.T) {
	others := some(source(9))
	for _, x := range elements(source(10)) {
		y := x
		for range 6 {
			y = y.Frob()
		}
		if y != x.Conj() {
			t.Errorf("%x: six times Frob is not Conj", flat(x))
		}
		for range 6 {
			y = y.Frob()
		}
		if y != x {
			t.Errorf("%x: twelve times Frob is another one", flat(x))
		}
		for _, z := range others {
			if x.Mul(z).Frob() != x.Frob().Mul(z.Frob()) {
				t.Errorf("%x and %x: Frob of the product", flat(x), flat(z))
			}
		}
	}
}

// P6.2: Power by small numbers is x as often times itself; no bytes and bytes 0 are 1, of 0 too.
func TestPowerSmall(t *testing.T) {
	for _, x := range some(source(11)) {
		for _, none := range [][]byte{nil, {}, {0}, {0, 0, 0}} {
			if x.Power(none) != tower.One() {
				t.Errorf("%x to the power of %x", flat(x), none)
			}
		}
		y := tower.One()
		for n := range 600 {
			if x.Power([]byte{byte(n >> 8), byte(n)}) != y {
				t.Errorf("%x to the power %d", flat(x), n)
			}
			if n < 256 && x.Power([]byte{byte(n)}) != y {
				t.Errorf("%x to the power %d of one byte", flat(x), n)
			}
			y = y.Mul(x)
		}
	}
}

// P6.2: Power by many bytes, the highest first, with noughts ahead; the bytes stay as they are.
func TestPowerLong(t *testing.T) {
	from := source(12)
	for _, x := range some(from) {
		for _, size := range []int{1, 2, 3, 8, 9, 32, 48, 100} {
			e := make([]byte, size+2)
			for i := 2; i < len(e); i++ {
				e[i] = byte(from.Uint32())
			}
			kept := bytes.Clone(e)
			check(t, "Power", x.Power(e), flat(x).power(new(big.Int).SetBytes(e)))
			if x.Power(e) != x.Power(e[2:]) {
				t.Errorf("%x: noughts ahead of %x", flat(x), e)
			}
			if !bytes.Equal(e, kept) {
				t.Errorf("Power has changed %x into %x", kept, e)
			}
		}
	}
}

// P6.2: each number but 0 is 1 to the power p^12 - 1.
func TestOrder(t *testing.T) {
	order := new(big.Int).Exp(modulus, big.NewInt(degree), nil)
	order.Sub(order, big.NewInt(1))
	for _, x := range some(source(13)) {
		want := tower.One()
		if x == (tower.El{}) {
			want = tower.El{}
		}
		if x.Power(order.Bytes()) != want {
			t.Errorf("%x to the power p^12 - 1", flat(x))
		}
	}
}

// P6.1, P6.2: a number is a value: nothing that is reckoned with it changes it.
func TestValues(t *testing.T) {
	for _, x := range some(source(14)) {
		y := x
		x.A.Add(x.B)
		x.A.Sub(x.B)
		x.A.Mul(x.B)
		x.A.Shift()
		x.A.Inv()
		x.Mul(x)
		x.Square()
		x.Conj()
		x.Inv()
		x.Line(x.A.A, x.A.B, x.A.C)
		x.Frob()
		x.Power([]byte{7})
		if x != y {
			t.Errorf("%x has changed", flat(y))
		}
	}
}

func BenchmarkMul(b *testing.B) {
	x, y := some(source(16))[4], some(source(17))[4]
	for b.Loop() {
		x = x.Mul(y)
	}
}

func BenchmarkSquare(b *testing.B) {
	x := some(source(16))[4]
	for b.Loop() {
		x = x.Square()
	}
}

func BenchmarkLine(b *testing.B) {
	x, y := some(source(16))[4], some(source(17))[4]
	for b.Loop() {
		x = x.Line(y.A.A, y.A.B, y.A.C)
	}
}

func BenchmarkFrob(b *testing.B) {
	x := some(source(16))[4]
	for b.Loop() {
		x = x.Frob()
	}
}

func BenchmarkInv(b *testing.B) {
	x := some(source(16))[4]
	for b.Loop() {
		x = x.Inv()
	}
}
