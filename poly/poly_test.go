package poly_test

import (
	"fmt"
	"math"
	"math/big"
	"math/rand/v2"
	"slices"
	"testing"

	"cresset/api"
	"cresset/fp"
	"cresset/fp2"
	"cresset/fr"
	"cresset/g1"
	"cresset/g2"
	"cresset/poly"
)

var order, _ = new(big.Int).SetString("73eda753299d7d483339d80809a1d80553bda402fffe5bfeffffffff00000001", 16)

func source(seed uint64) *rand.Rand { return rand.New(rand.NewPCG(14, seed)) }

// drawn is some scalar, the same one each time.
func drawn(from *rand.Rand) fr.El {
	b := make([]byte, fr.Size+8)
	for i := range b {
		b[i] = byte(from.Uint32())
	}
	return fr.Wide(b)
}

// whole is the number that a scalar is.
func whole(x fr.El) *big.Int {
	b := x.Bytes()
	return new(big.Int).SetBytes(b[:])
}

// scalar is a number modulo r.
func scalar(t testing.TB, n *big.Int) fr.El {
	t.Helper()
	x, e := fr.Read(new(big.Int).Mod(n, order).FillBytes(make([]byte, fr.Size)))
	if e != api.OK {
		t.Fatal(e)
	}
	return x
}

// polys are of many lengths, some with factors at the edges: also highest ones that are 0.
func polys(seed uint64) []poly.Poly {
	from, one := source(seed), fr.Of(1)
	all := []poly.Poly{nil, {}, {fr.El{}}, {one}, {one.Neg()}, {fr.Of(7), fr.Of(2)}, {one, fr.El{}}, {fr.El{}, one}, {fr.El{}, fr.El{}, fr.El{}}, {one.Neg(), one.Neg(), one.Neg(), one.Neg()}, {fr.Of(math.MaxUint64), one, fr.El{}, fr.Of(1 << 63), fr.El{}}}
	for n := range 12 {
		all = append(all, some(from, n))
	}
	return all
}

// some is a polynomial of so many factors.
func some(from *rand.Rand, n int) poly.Poly {
	p := make(poly.Poly, n)
	for i := range p {
		p[i] = drawn(from)
	}
	return p
}

// commits are the polynomials' commitments.
func commits(ps []poly.Poly) []poly.Public {
	var all []poly.Public
	for _, p := range ps {
		all = append(all, p.Commit())
	}
	return all
}

// places are any numbers.
func places() []int {
	return []int{0, 1, 2, 3, 8, 9, 10, -1, -2, -9, 255, 256, math.MaxInt32, math.MinInt32, math.MaxInt32 + 1, math.MaxInt, math.MinInt, math.MinInt + 1}
}

// wantAt is the sum of the factors, each times its power of the place, by math/big.
func wantAt(t testing.TB, p poly.Poly, x int) fr.El {
	t.Helper()
	sum := new(big.Int)
	for i, factor := range p {
		power := new(big.Int).Exp(big.NewInt(int64(x)), big.NewInt(int64(i)), nil)
		sum.Add(sum, power.Mul(power, whole(factor)))
	}
	return scalar(t, sum)
}

// members are the lists of 1 to 9 in which each stands once or not at all; they are not in order.
func members(seed uint64) [][]int {
	from := source(seed)
	var all [][]int
	for set := range 1 << api.MaxNodes {
		var xs []int
		for i := range api.MaxNodes {
			if set>>i&1 == 1 {
				xs = append(xs, i+1)
			}
		}
		from.Shuffle(len(xs), func(i, j int) { xs[i], xs[j] = xs[j], xs[i] })
		all = append(all, xs)
	}
	return all
}

// shares are a polynomial's values at places.
func shares(p poly.Poly, xs []int) []fr.El {
	var found []fr.El
	for _, x := range xs {
		found = append(found, p.At(x))
	}
	return found
}

// firsts are the first group's generator times numbers.
func firsts(ks []fr.El) []g1.P {
	var ps []g1.P
	for _, k := range ks {
		ps = append(ps, g1.Gen().Mul(k))
	}
	return ps
}

// seconds are the second group's generator times numbers.
func seconds(ks []fr.El) []g2.P {
	var ps []g2.P
	for _, k := range ks {
		ps = append(ps, g2.Gen().Mul(k))
	}
	return ps
}

// P14.1: the sum of the factors by the powers of any place.
func TestPolyAt(t *testing.T) {
	for i, p := range polys(1) {
		for _, x := range places() {
			if got, want := p.At(x), wantAt(t, p, x); got != want {
				t.Errorf("polynomial %d at %d: %x, not %x", i, x, got.Bytes(), want.Bytes())
			}
		}
		for x := -20; x <= 20; x++ {
			if p.At(x) != wantAt(t, p, x) {
				t.Errorf("polynomial %d at %d", i, x)
			}
		}
	}
}

// P14.1: small ones by hand; at 0 the first factor, of none 0.
func TestPolyAtKnown(t *testing.T) {
	p := poly.Poly{fr.Of(7), fr.Of(2)}
	for x, want := range map[int]fr.El{0: fr.Of(7), 1: fr.Of(9), 3: fr.Of(13), -1: fr.Of(5), -4: fr.Of(1).Neg(), math.MinInt64: fr.Of(7).Sub(fr.Of(1 << 63).Add(fr.Of(1 << 63)))} {
		if p.At(x) != want {
			t.Errorf("7 + 2 x at %d: %x", x, p.At(x).Bytes())
		}
	}
	for _, x := range places() {
		if !(poly.Poly(nil)).At(x).Zero() || !(poly.Poly{}).At(x).Zero() {
			t.Errorf("no factors at %d", x)
		}
	}
	// 0 to the power 0 is 1.
	for i, p := range polys(2) {
		if len(p) > 0 && p.At(0) != p[0] {
			t.Errorf("polynomial %d at 0", i)
		}
	}
}

// P14.1: each factor times the generator: those that are 0 too, in their place.
func TestCommit(t *testing.T) {
	for i, p := range polys(3) {
		c := p.Commit()
		if len(c) != len(p) {
			t.Fatalf("polynomial %d: %d points of %d factors", i, len(c), len(p))
		}
		for n, factor := range p {
			if c[n] != g1.Gen().Mul(factor) || (c[n] == g1.P{}) != factor.Zero() {
				t.Errorf("polynomial %d, factor %d", i, n)
			}
		}
	}
}

// P14.2: the sum of the points by the powers of any place, P{} among them.
func TestPublicAt(t *testing.T) {
	for i, p := range polys(4) {
		c := p.Commit()
		for _, x := range places() {
			if c.At(x) != g1.Gen().Mul(wantAt(t, p, x)) {
				t.Errorf("commitment %d at %d", i, x)
			}
		}
	}
	same := poly.Public{g1.Gen(), g1.Gen(), g1.Gen()}
	if same.At(0) != g1.Gen() || same.At(1) != g1.Gen().Mul(fr.Of(3)) || same.At(9) != g1.Gen().Mul(fr.Of(91)) || same.At(-1) != g1.Gen() {
		t.Error("the generator thrice")
	}
	for _, x := range places() {
		if (poly.Public(nil)).At(x) != (g1.P{}) || (poly.Public{}).At(x) != (g1.P{}) {
			t.Errorf("no points at %d", x)
		}
	}
}

// P14.2: the share of the place fits, and no other.
func TestFits(t *testing.T) {
	for i, p := range polys(5) {
		c := p.Commit()
		for _, x := range []int{-1, 0, 1, 2, 9, 10, math.MinInt} {
			share := wantAt(t, p, x)
			if !c.Fits(x, share) {
				t.Errorf("commitment %d at %d: the share doesn't fit", i, x)
			}
			for n, wrong := range []fr.El{share.Add(fr.Of(1)), share.Neg(), share.Add(share), {}, fr.Of(1), wantAt(t, p, x+1)} {
				if wrong != share && c.Fits(x, wrong) {
					t.Errorf("commitment %d at %d: wrong share %d fits", i, x, n)
				}
			}
		}
	}
	if !(poly.Public(nil)).Fits(1, fr.El{}) || (poly.Public(nil)).Fits(1, fr.Of(1)) {
		t.Error("no points")
	}
}

// P14.2: point by point; where one list has none more, the other's.
func TestPlus(t *testing.T) {
	ps, qs := polys(6), polys(7)
	cs, ds := commits(ps), commits(qs)
	for i, p := range ps {
		for j, q := range qs {
			sum := cs[i].Plus(ds[j])
			if len(sum) != max(len(p), len(q)) {
				t.Fatalf("commitments %d and %d: %d points", i, j, len(sum))
			}
			for n := range sum {
				var want fr.El
				if n < len(p) {
					want = want.Add(p[n])
				}
				if n < len(q) {
					want = want.Add(q[n])
				}
				if sum[n] != g1.Gen().Mul(want) {
					t.Errorf("commitments %d and %d, point %d", i, j, n)
				}
			}
		}
	}
}

// P14.2: what comes to nought stays in its place; a list and itself are doubled.
func TestPlusEdges(t *testing.T) {
	c := some(source(8), api.MaxNodes).Commit()
	var against poly.Public
	for _, q := range c {
		against = append(against, q.Neg())
	}
	nought := c.Plus(against)
	if len(nought) != len(c) {
		t.Error("nought is shorter")
	}
	for n, q := range nought {
		if q != (g1.P{}) {
			t.Errorf("point %d is not nought", n)
		}
	}
	for n, q := range c.Plus(c) {
		if q != c[n].Mul(fr.Of(2)) {
			t.Errorf("point %d is not twice itself", n)
		}
	}
	if len((poly.Public(nil)).Plus(nil)) != 0 || len((poly.Public{}).Plus(poly.Public{})) != 0 {
		t.Error("nothing and nothing")
	}
}

// P14.2: the lists stay, the room behind them too; the answer shares none with them.
func TestPlusArguments(t *testing.T) {
	long, short := some(source(9), api.MaxNodes).Commit(), some(source(9), 4).Commit()
	for n := range long {
		for m := range short {
			a, b := slices.Clone(long), slices.Clone(short)
			sum := a[:n].Plus(b[:m])
			want := slices.Clone(sum)
			if !slices.Equal(a, long) || !slices.Equal(b, short) {
				t.Fatalf("%d and %d points: the arguments have changed", n, m)
			}
			clear(a)
			clear(b)
			if !slices.Equal(sum, want) {
				t.Fatalf("%d and %d points: the answer shares an argument's memory", n, m)
			}
			a, b = slices.Clone(long), slices.Clone(short)
			clear(a[:n].Plus(b[:m]))
			if !slices.Equal(a, long) || !slices.Equal(b, short) {
				t.Fatalf("%d and %d points: the arguments share the answer's memory", n, m)
			}
		}
	}
}

// wantWeights are the products of y / (y - x), by math/big.
func wantWeights(t testing.TB, xs []int) []fr.El {
	t.Helper()
	var weights []fr.El
	for i, x := range xs {
		w := big.NewInt(1)
		for j, y := range xs {
			if i != j {
				below := new(big.Int).ModInverse(new(big.Int).Mod(big.NewInt(int64(y-x)), order), order)
				w.Mul(w, below.Mul(below, big.NewInt(int64(y))))
			}
		}
		weights = append(weights, scalar(t, w))
	}
	return weights
}

// P14.3: of all lists of members; each weight stands where its place does.
func TestWeights(t *testing.T) {
	for _, xs := range members(10) {
		got, e := poly.Weights(xs)
		if e != api.OK || !slices.Equal(got, wantWeights(t, xs)) {
			t.Errorf("Weights of %d: %d", xs, e)
		}
	}
	// Of 1 and 3: 3/2 and 1/(-2); of one alone 1.
	half := fr.Of(2).Inv()
	if got, e := poly.Weights([]int{1, 3}); e != api.OK || !slices.Equal(got, []fr.El{fr.Of(3).Mul(half), half.Neg()}) {
		t.Error("Weights of 1 and 3")
	}
	for x := 1; x <= api.MaxNodes; x++ {
		if got, e := poly.Weights([]int{x}); e != api.OK || !slices.Equal(got, []fr.El{fr.Of(1)}) {
			t.Errorf("Weights of %d", x)
		}
	}
	for _, xs := range [][]int{nil, {}} {
		if got, e := poly.Weights(xs); e != api.OK || len(got) != 0 {
			t.Error("Weights of none")
		}
	}
}

// wrongPlaces are lists that Weights refuses, and by which error: the first place that is wrong tells.
func wrongPlaces() []struct {
	xs []int
	e  api.Errno
} {
	return []struct {
		xs []int
		e  api.Errno
	}{
		{[]int{0}, api.ErrIndex},
		{[]int{10}, api.ErrIndex},
		{[]int{-1}, api.ErrIndex},
		{[]int{math.MaxInt}, api.ErrIndex},
		{[]int{math.MinInt}, api.ErrIndex},
		{[]int{257}, api.ErrIndex},
		{[]int{1<<32 + 1}, api.ErrIndex},
		{[]int{0, 0}, api.ErrIndex},
		{[]int{10, 10}, api.ErrIndex},
		{[]int{1, 2, 3, 0}, api.ErrIndex},
		{[]int{1, 2, 3, 4, 5, 6, 7, 8, 9, 10}, api.ErrIndex},
		{[]int{1, 1}, api.ErrTwice},
		{[]int{9, 9}, api.ErrTwice},
		{[]int{1, 2, 1}, api.ErrTwice},
		{[]int{3, 9, 5, 9}, api.ErrTwice},
		{[]int{1, 1, 0}, api.ErrTwice},
		{[]int{1, 1, 10, 10}, api.ErrTwice},
		{[]int{1, 0, 1}, api.ErrIndex},
		{[]int{0, 1, 1}, api.ErrIndex},
		{[]int{2, 1, 10, 1}, api.ErrIndex},
		{[]int{1, 2, 3, 4, 5, 6, 7, 8, 9, 5}, api.ErrTwice},
		{[]int{9, 8, 7, 6, 5, 4, 3, 2, 1, 1, 0}, api.ErrTwice},
	}
}

// P14.3: place by place; beside an error there is nothing.
func TestWeightsWrong(t *testing.T) {
	for _, x := range wrongPlaces() {
		if got, e := poly.Weights(x.xs); e != x.e || len(got) != 0 {
			t.Errorf("Weights of %d: %d, %d weights; not %d", x.xs, e, len(got), x.e)
		}
	}
	if got, e := poly.Weights(make([]int, 1<<20)); e != api.ErrIndex || len(got) != 0 {
		t.Errorf("Weights of many: %d", e)
	}
}

// P14.3: as with Weights, of shares, keys and signatures; but of another length first.
func TestMixedWrong(t *testing.T) {
	for _, x := range wrongPlaces() {
		n := len(x.xs)
		for m := range n + 3 {
			want := x.e
			if m != n {
				want = api.ErrArg
			}
			checkMixed(t, x.xs, m, want)
		}
	}
	for n := range 4 {
		for m := range 5 {
			if n != m {
				checkMixed(t, []int{1, 2, 3}[:n], m, api.ErrArg)
			}
		}
	}
}

// checkMixed hands places, and so many others, that must be refused.
func checkMixed(t *testing.T, xs []int, n int, want api.Errno) {
	t.Helper()
	ks, ps, qs := slices.Repeat([]fr.El{fr.Of(5)}, n), slices.Repeat([]g1.P{g1.Gen()}, n), slices.Repeat([]g2.P{g2.Gen()}, n)
	if s, e := poly.Secret(xs, ks); e != want || s != (fr.El{}) {
		t.Errorf("Secret of %d, %d shares: %d, not %d", xs, n, e, want)
	}
	if p, e := poly.Key(xs, ps); e != want || p != (g1.P{}) {
		t.Errorf("Key of %d, %d points: %d, not %d", xs, n, e, want)
	}
	if p, e := poly.Sig(xs, qs); e != want || p != (g2.P{}) {
		t.Errorf("Sig of %d, %d points: %d, not %d", xs, n, e, want)
	}
}

// mixed is the sum of shares, each times its place's weight.
func mixed(t testing.TB, xs []int, ks []fr.El) fr.El {
	t.Helper()
	var sum fr.El
	for i, w := range wantWeights(t, xs) {
		sum = sum.Add(w.Mul(ks[i]))
	}
	return sum
}

// P14.3: whatever the shares are, of no polynomial too; of none 0 or P{}.
func TestMixed(t *testing.T) {
	from := source(11)
	for i, xs := range members(12) {
		ks := make([]fr.El, len(xs))
		for n := range ks {
			if from.IntN(5) > 0 {
				ks[n] = drawn(from)
			}
		}
		want := mixed(t, xs, ks)
		if s, e := poly.Secret(xs, ks); e != api.OK || s != want {
			t.Errorf("Secret of %d: %d", xs, e)
		}
		if i%8 != 0 && i != 511 {
			continue
		}
		if p, e := poly.Key(xs, firsts(ks)); e != api.OK || p != g1.Gen().Mul(want) {
			t.Errorf("Key of %d: %d", xs, e)
		}
		if p, e := poly.Sig(xs, seconds(ks)); e != api.OK || p != g2.Gen().Mul(want) {
			t.Errorf("Sig of %d: %d", xs, e)
		}
	}
	if s, e := poly.Secret([]int{}, nil); e != api.OK || s != (fr.El{}) {
		t.Error("Secret of none")
	}
	if p, e := poly.Key(nil, []g1.P{}); e != api.OK || p != (g1.P{}) {
		t.Error("Key of none")
	}
	if p, e := poly.Sig(nil, nil); e != api.OK || p != (g2.P{}) {
		t.Error("Sig of none")
	}
}

// P14.4: as many shares as there are factors, or more, tell the value at 0; fewer don't.
func TestSecret(t *testing.T) {
	from := source(13)
	for n := range api.MaxNodes + 1 {
		p := some(from, n)
		for _, xs := range members(uint64(n)) {
			s, e := poly.Secret(xs, shares(p, xs))
			if e != api.OK || (s == p.At(0)) != (len(xs) >= n) {
				t.Errorf("%d factors, Secret of %d: %d", n, xs, e)
			}
		}
	}
	if s, e := poly.Secret([]int{3, 1}, []fr.El{fr.Of(13), fr.Of(9)}); e != api.OK || s != fr.Of(7) {
		t.Errorf("the secret of 7 + 2 x: %x, %d", s.Bytes(), e)
	}
}

// P14.4: likewise with what shares make: keys and signatures.
func TestKeyAndSig(t *testing.T) {
	for _, p := range polys(14) {
		c := p.Commit()
		for _, xs := range [][]int{{1, 2, 3, 4, 5}, {9, 8, 7, 6, 5, 4, 3, 2, 1}, {2, 9, 4, 1, 6, 3, 8}} {
			if len(xs) < len(p) {
				continue
			}
			var ps []g1.P
			for _, x := range xs {
				ps = append(ps, c.At(x))
			}
			if k, e := poly.Key(xs, ps); e != api.OK || k != c.At(0) {
				t.Errorf("%d factors, Key of %d: %d", len(p), xs, e)
			}
			if s, e := poly.Sig(xs, seconds(shares(p, xs))); e != api.OK || s != g2.Gen().Mul(p.At(0)) {
				t.Errorf("%d factors, Sig of %d: %d", len(p), xs, e)
			}
		}
	}
}

// P14.2: shares of two polynomials' sum fit the sum of their commitments.
func TestSum(t *testing.T) {
	ps, qs := polys(15), polys(16)[10:]
	cs, ds := commits(ps), commits(qs)
	for i, p := range ps {
		for j, q := range qs {
			for _, x := range []int{1, 9} {
				if !cs[i].Plus(ds[j]).Fits(x, p.At(x).Add(q.At(x))) {
					t.Errorf("polynomials %d and %d at %d", i, j, x)
				}
			}
		}
	}
}

// What is handed in stays, the room behind it too, and what lies there doesn't count.
func TestArguments(t *testing.T) {
	p := some(source(17), api.MaxNodes)
	kept, c := slices.Clone(p), p.Commit()
	public := slices.Clone(c)
	xs, ks, ps, qs := []int{4, 2, 9, 2}, slices.Clone(p[:4]), firsts(p[:4]), seconds(p[:4])
	for n := range 4 {
		what := fmt.Sprintf("of %d", n)
		if p[:n].At(5) != slices.Clone(p[:n]).At(5) || c[:n].At(5) != slices.Clone(c[:n]).At(5) || len(p[:n].Commit()) != n {
			t.Errorf("At or Commit %s", what)
		}
		w, e := poly.Weights(xs[:n])
		clear(w)
		s, f := poly.Secret(xs[:n], ks[:n])
		k, g := poly.Key(xs[:n], ps[:n])
		q, h := poly.Sig(xs[:n], qs[:n])
		if want := mixed(t, xs[:n], ks[:n]); s != want || k != g1.Gen().Mul(want) || q != g2.Gen().Mul(want) {
			t.Errorf("Secret, Key or Sig %s", what)
		}
		if e != api.OK || f != api.OK || g != api.OK || h != api.OK {
			t.Errorf("errors %s: %d, %d, %d, %d", what, e, f, g, h)
		}
	}
	if !slices.Equal(p, kept) || !slices.Equal(c, public) || !slices.Equal(xs, []int{4, 2, 9, 2}) || !slices.Equal(ks, p[:4]) || !slices.Equal(ps, firsts(p[:4])) || !slices.Equal(qs, seconds(p[:4])) {
		t.Error("an argument has changed")
	}
}

// P14.2, P14.3: of points out of the group, or of the curve, the calls end.
func TestOutside(t *testing.T) {
	off, offs := g1.P{X: fp.Of(1), Y: fp.Of(1)}, g2.P{X: fp2.Small(1, 1), Y: fp2.Small(1, 0)}
	c := poly.Public{off, g1.Gen(), {X: fp.Of(0), Y: fp.Of(2)}, {Y: fp.Of(1)}, off}
	for _, x := range places() {
		c.At(x)
		c.Fits(x, fr.Of(3))
	}
	if len(c.Plus(c)) != len(c) || len(c.Plus(c[:2])) != len(c) || len(c[:2].Plus(c)) != len(c) {
		t.Error("Plus has another length")
	}
	if _, e := poly.Key([]int{1, 2, 3, 4, 5}, c); e != api.OK {
		t.Error("Key: ", e)
	}
	if _, e := poly.Sig([]int{7, 1}, []g2.P{offs, offs}); e != api.OK {
		t.Error("Sig: ", e)
	}
}

func BenchmarkPublicAt(b *testing.B) {
	c := some(source(18), api.MaxNodes).Commit()
	for b.Loop() {
		c.At(9)
	}
}

func BenchmarkFits(b *testing.B) {
	c := some(source(18), 3).Commit()
	for b.Loop() {
		c.Fits(5, fr.Of(1).Neg())
	}
}

func BenchmarkSig(b *testing.B) {
	xs, qs := []int{1, 3, 5, 7, 9}, slices.Repeat([]g2.P{g2.Gen()}, 5)
	for b.Loop() {
		poly.Sig(xs, qs)
	}
}
