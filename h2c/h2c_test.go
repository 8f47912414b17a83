package h2c_test

import (
	"bytes"
	"encoding/hex"
	"fmt"
	"math/big"
	"math/rand/v2"
	"strings"
	"testing"

	"cresset/api"
	"cresset/fp"
	"cresset/fp2"
	"cresset/fr"
	"cresset/g2"
	"cresset/h2c"
	"cresset/xmd"
)

const hashTag = "QUUX-V01-CS02-with-BLS12381G2_XMD:SHA-256_SSWU_RO_"

var (
	modulus = whole("1a0111ea397fe69a4b1ba7b6434bacd764774b84f38512bf6730d2a0f6b0f6241eabfffeb153ffffb9feffffffffaaab")
	order   = whole("73eda753299d7d483339d80809a1d80553bda402fffe5bfeffffffff00000001")
	// cofactor times the order is how many points the curve has; among its primes are 13 and 23, both twice, 2713, 11953 and 262069.
	cofactor = whole("5d543a95414e7f1091d50792876a202cd91de4547085abaa68a205b2e5a7ddfa628f1cb4d9e82ef21537e293a6691ae1616ec6e786f0c70cf1c38e31c7238e5")
	// often is how often Clear takes a point.
	often = whole("bc69f08f2ee75b3584c6a0ea91b352888e2a8e9145ad7689986ff031508ffe1329c2f178731db956d82bf015d1212b02ec0ec69d7477c1ae954cbc06689f6a359894c0adebbf6b4e8020005aaa95551")
)

// whole is the number that hex digits are.
func whole(digits string) *big.Int {
	n, ok := new(big.Int).SetString(digits, 16)
	if !ok {
		panic("no hex digits: " + digits)
	}
	return n
}

// in is a number modulo p.
func in(n *big.Int) *big.Int { return new(big.Int).Mod(n, modulus) }

// pair is a + b i by math/big.
type pair struct{ a, b *big.Int }

func small(a, b int64) pair { return pair{in(big.NewInt(a)), in(big.NewInt(b))} }

func (x pair) add(y pair) pair {
	return pair{in(new(big.Int).Add(x.a, y.a)), in(new(big.Int).Add(x.b, y.b))}
}

func (x pair) mul(y pair) pair {
	a := new(big.Int).Mul(x.a, y.a)
	b := new(big.Int).Mul(x.a, y.b)
	return pair{in(a.Sub(a, new(big.Int).Mul(x.b, y.b))), in(b.Add(b, new(big.Int).Mul(x.b, y.a)))}
}

func (x pair) neg() pair { return small(-1, 0).mul(x) }

func (x pair) nought() bool { return x.a.Sign() == 0 && x.b.Sign() == 0 }

func (x pair) same(y pair) bool { return x.a.Cmp(y.a) == 0 && x.b.Cmp(y.b) == 0 }

// norm is the sum of the squares.
func (x pair) norm() *big.Int {
	n := new(big.Int).Mul(x.a, x.a)
	return in(n.Add(n, new(big.Int).Mul(x.b, x.b)))
}

// inverse is 1/x; of 0 it is 0.
func (x pair) inverse() pair {
	if x.nought() {
		return x
	}
	n := new(big.Int).ModInverse(x.norm(), modulus)
	return pair{x.a, in(new(big.Int).Neg(x.b))}.mul(pair{n, new(big.Int)})
}

// odd tells of a, or, if that is 0, of b.
func (x pair) odd() bool {
	if x.a.Sign() == 0 {
		return x.b.Bit(0) == 1
	}
	return x.a.Bit(0) == 1
}

// root is a square root, and whether there is one: there is, just if the norm has one.
func (x pair) root() (pair, bool) {
	s := new(big.Int).ModSqrt(x.norm(), modulus)
	if s == nil {
		return pair{}, false
	}
	half := new(big.Int).ModInverse(big.NewInt(2), modulus)
	for _, s := range []*big.Int{s, in(new(big.Int).Neg(s))} {
		square := in(new(big.Int).Mul(new(big.Int).Add(x.a, s), half))
		a := new(big.Int).ModSqrt(square, modulus)
		if a == nil || a.Sign() == 0 {
			continue
		}
		b := new(big.Int).Mul(x.b, half)
		y := pair{a, in(b.Mul(b, new(big.Int).ModInverse(a, modulus)))}
		if y.mul(y).same(x) {
			return y, true
		}
	}
	panic("no root is found")
}

// value is a polynomial's, as the chapter says: each factor times its power of x.
func value(x pair, factors []pair) pair {
	sum, power := small(0, 0), small(1, 0)
	for _, f := range factors {
		sum, power = sum.add(f.mul(power)), power.mul(x)
	}
	return sum
}

// the chapter's four polynomials.
var (
	both = func(digits string) pair { return pair{whole(digits), whole(digits)} }
	one  = func(digits string) pair { return pair{whole(digits), new(big.Int)} }
	beI  = func(digits string) pair { return pair{new(big.Int), whole(digits)} }

	forN = []pair{
		both("05c759507e8e333ebb5b7a9a47d7ed8532c52d39fd3a042a88b58423c50ae15d5c2638e343d9c71c6238aaaaaaaa97d6"),
		beI("11560bf17baa99bc32126fced787c88f984f87adf7ae0c7f9a208c6b4f20a4181472aaa9cb8d555526a9ffffffffc71a"),
		{whole("11560bf17baa99bc32126fced787c88f984f87adf7ae0c7f9a208c6b4f20a4181472aaa9cb8d555526a9ffffffffc71e"), whole("08ab05f8bdd54cde190937e76bc3e447cc27c3d6fbd7063fcd104635a790520c0a395554e5c6aaaa9354ffffffffe38d")},
		one("171d6541fa38ccfaed6dea691f5fb614cb14b4e7f4e810aa22d6108f142b85757098e38d0f671c7188e2aaaaaaaa5ed1"),
	}
	forD = []pair{small(0, -72), small(12, -12), small(1, 0)}
	forM = []pair{
		both("1530477c7ab4113b59a4c18b076d11930f7da5d4a07f649bf54439d87d27e500fc8c25ebf8c92f6812cfc71c71c6d706"),
		beI("05c759507e8e333ebb5b7a9a47d7ed8532c52d39fd3a042a88b58423c50ae15d5c2638e343d9c71c6238aaaaaaaa97be"),
		{whole("11560bf17baa99bc32126fced787c88f984f87adf7ae0c7f9a208c6b4f20a4181472aaa9cb8d555526a9ffffffffc71c"), whole("08ab05f8bdd54cde190937e76bc3e447cc27c3d6fbd7063fcd104635a790520c0a395554e5c6aaaa9354ffffffffe38f")},
		one("124c9ad43b6cf79bfbf7043de3811ad0761b0f37a1e26286b0e977c69aa274524e79097a56dc4bd9e1b371c71c718b10"),
	}
	forE = []pair{small(-432, -432), small(0, -216), small(18, -18), small(1, 0)}
)

// model is where Map must lead, by the chapter's words; moved tells whether x times t stood for x.
func model(u pair) (x, y pair, moved bool) {
	a, b, z := small(0, 240), small(1012, 1012), small(-2, -1)
	t := z.mul(u).mul(u)
	d := t.mul(t).add(t).inverse()
	s := b.neg().mul(a.inverse()).mul(small(1, 0).add(d))
	if d.nought() {
		s = b.mul(z.mul(a).inverse())
	}
	root, ok := value(s, []pair{b, a, small(0, 0), small(1, 0)}).root()
	if !ok {
		s = s.mul(t)
		root, _ = value(s, []pair{b, a, small(0, 0), small(1, 0)}).root()
	}
	if root.odd() != u.odd() {
		root = root.neg()
	}
	below, beneath := value(s, forD), value(s, forE)
	if below.nought() || beneath.nought() {
		return small(0, 0), small(0, 0), !ok
	}
	x = value(s, forN).mul(below.inverse())
	y = root.mul(value(s, forM)).mul(beneath.inverse())
	return x, y, !ok
}

// beneath is a number of layer 4 by Read.
func beneath(t testing.TB, n *big.Int) fp.El {
	t.Helper()
	var b [fp.Size]byte
	x, e := fp.Read(n.FillBytes(b[:]))
	if e != api.OK {
		t.Fatalf("fp.Read of %x: %d", n, e)
	}
	return x
}

// element is a number of layer 5 by its parts.
func element(t testing.TB, x pair) fp2.El {
	t.Helper()
	return fp2.El{A: beneath(t, x.a), B: beneath(t, x.b)}
}

// numbers are pairs of parts about the edges, each with each, and some drawn ones that are the same each time.
func numbers() []pair {
	half := new(big.Int).Rsh(modulus, 1)
	parts := []*big.Int{half, in(new(big.Int).Add(half, big.NewInt(1)))}
	for k := range int64(3) {
		parts = append(parts, big.NewInt(k), in(big.NewInt(-1-k)))
	}
	all := []pair{}
	for _, a := range parts {
		for _, b := range parts {
			all = append(all, pair{a, b})
		}
	}
	source := rand.New(rand.NewPCG(12, 381))
	for range 40 {
		all = append(all, pair{drawn(source), drawn(source)})
	}
	return all
}

// drawn is a number of layer 4.
func drawn(source *rand.Rand) *big.Int {
	var b [fp.Size + 8]byte
	for i := range b {
		b[i] = byte(source.Uint32())
	}
	return in(new(big.Int).SetBytes(b[:]))
}

// texts are those of the RFC's examples.
func texts() []string {
	return []string{"", "abc", "abcdef0123456789", "q128_" + strings.Repeat("q", 128), "a512_" + strings.Repeat("a", 512)}
}

// written are the four parts of a point's numbers in hex.
func written(p g2.P) [4]string {
	var all [4]string
	for i, x := range []fp.El{p.X.A, p.X.B, p.Y.A, p.Y.B} {
		b := x.Bytes()
		all[i] = hex.EncodeToString(b[:])
	}
	return all
}

// P12.1: where Map leads, by the chapter's words, at the edges and at drawn numbers, with a root at x and with one at x times t.
func TestMap(t *testing.T) {
	ways := map[bool]int{}
	signs := map[[2]bool]int{}
	for _, u := range numbers() {
		x, y, moved := model(u)
		ways[moved]++
		signs[[2]bool{u.a.Sign() == 0, u.odd()}]++
		got := h2c.Map(element(t, u))
		if want := (g2.P{X: element(t, x), Y: element(t, y)}); got != want {
			t.Errorf("Map of %x + %x i: %v, not %v", u.a, u.b, written(got), written(want))
		}
		if !got.On() || got == (g2.P{}) {
			t.Errorf("Map of %x + %x i is no point of the curve: %v", u.a, u.b, written(got))
		}
	}
	if ways[true] < 10 || ways[false] < 10 || len(signs) != 4 {
		t.Error("not all ways are gone: ", ways, signs)
	}
}

// P12.1: the RFC's own examples.
func TestMapKnown(t *testing.T) {
	for _, x := range []struct{ u, want [4]string }{
		{
			[4]string{"03dbc2cce174e91ba93cbb08f26b917f98194a2ea08d1cce75b2b9cc9f21689d80bd79b594a613d0a68eb807dfdc1cf8", "05a2acec64114845711a54199ea339abd125ba38253b70a92c876df10598bd1986b739cad67961eb94f7076511b3b39a"},
			[4]string{
				"019ad3fc9c72425a998d7ab1ea0e646a1f6093444fc6965f1cad5a3195a7b1e099c050d57f45e3fa191cc6d75ed7458c", "171c88b0b0efb5eb2b88913a9e74fe111a4f68867b59db252ce5868af4d1254bfab77ebde5d61cd1a86fb2fe4a5a1c1d",
				"0ba10604e62bdd9eeeb4156652066167b72c8d743b050fb4c1016c31b505129374f76e03fa127d6a156213576910fef3", "0eb22c7a543d3d376e9716a49b72e79a89c9bfe9feee8533ed931cbb5373dde1fbcd7411d8052e02693654f71e15410a",
			},
		},
		{
			[4]string{"02f99798e8a5acdeed60d7e18e9120521ba1f47ec090984662846bc825de191b5b7641148c0dbc237726a334473eee94", "145a81e418d4010cc027a68f14391b30074e89e60ee7a22f87217b2f6eb0c4b94c9115b436e6fa4607e95a98de30a435"},
			[4]string{
				"113d2b9cd4bd98aee53470b27abc658d91b47a78a51584f3d4b950677cfb8a3e99c24222c406128c91296ef6b45608be", "13855912321c5cb793e9d1e88f6f8d342d49c0b0dbac613ee9e17e3c0b3c97dfbb5a49cc3fb45102fdbaf65e0efe2632",
				"0fd3def0b7574a1d801be44fde617162aa2e89da47f464317d9bb5abc3a7071763ce74180883ad7ad9a723a9afafcdca", "056f617902b3c0d0f78a9a8cbda43a26b65f602f8786540b9469b060db7b38417915b413ca65f875c130bebfaa59790c",
			},
		},
	} {
		u := element(t, pair{whole(x.u[0]), whole(x.u[1])})
		if got := written(h2c.Map(u)); got != x.want {
			t.Errorf("Map of %v: %v", x.u, got)
		}
	}
}

// P12.1: the negative of a number, but 0, leads to the negative, as y goes by its sign.
func TestMapSign(t *testing.T) {
	for _, u := range numbers() {
		x := element(t, u)
		p, q := h2c.Map(x), h2c.Map(x.Neg())
		if u.nought() {
			if p != q {
				t.Error("0 and -0 lead to two points")
			}
			continue
		}
		if q != p.Neg() || p == q {
			t.Errorf("Map of the negative of %x + %x i: %v", u.a, u.b, written(q))
		}
	}
}

// spots are points of the curve: drawn ones, which are of no small order, and those of each of the curve's small orders.
func spots() map[string]g2.P {
	all := map[string]g2.P{"infinity": {}, "the generator": g2.Gen(), "the generator's negative": g2.Gen().Neg()}
	count := new(big.Int).Mul(order, cofactor)
	for k := range uint64(6) {
		p := h2c.Map(fp2.Small(k, 3))
		all[fmt.Sprint("Map of 3 i + ", k)] = p
		for _, n := range []int64{13, 169, 23, 529, 2713, 11953, 262069, 13 * 23} {
			rest := new(big.Int).Div(count, big.NewInt(n))
			all[fmt.Sprintf("%d, of order %d at most", k, n)] = p.Times(rest.Bytes())
		}
		all[fmt.Sprint(k, ", of no part in the group")] = p.Times(order.Bytes())
		all[fmt.Sprint(k, ", of the group")] = p.Times(cofactor.Bytes())
	}
	return all
}

// P12.2: p taken h times, for points of all orders.
func TestClear(t *testing.T) {
	if often.BitLen() != 636 {
		t.Error("h has other bits: ", often.BitLen())
	}
	orders := 0
	for name, p := range spots() {
		if !p.On() {
			t.Fatalf("%s is not on the curve", name)
		}
		got := h2c.Clear(p)
		if want := p.Times(often.Bytes()); got != want {
			t.Errorf("Clear of %s: %v, not %v", name, written(got), written(want))
		}
		if !got.In() {
			t.Errorf("Clear of %s is not in the group", name)
		}
		if !p.In() {
			orders++
		}
	}
	if orders < 40 {
		t.Error("few points are out of the group: ", orders)
	}
}

// P12.2: a point of the group is taken h times as a scalar says, and only infinity, and what has no part in the group, comes to nought.
func TestClearOfGroup(t *testing.T) {
	if h2c.Clear(g2.P{}) != (g2.P{}) {
		t.Error("Clear of infinity")
	}
	for k := range uint64(5) {
		p := g2.Gen().Mul(fr.Of(k + 1))
		got := h2c.Clear(p)
		if got != p.Mul(fr.Wide(often.Bytes())) || got == (g2.P{}) {
			t.Errorf("Clear of the generator taken %d times: %v", k+1, written(got))
		}
		out := h2c.Map(fp2.Small(k, 0)).Times(order.Bytes())
		if out == (g2.P{}) || h2c.Clear(out) != (g2.P{}) || h2c.Clear(p.Add(out)) != got {
			t.Error("what has no part in the group is not let go")
		}
	}
}

// P12.2: sums go to sums.
func TestClearOfSums(t *testing.T) {
	p, q := h2c.Map(fp2.Small(3, 4)), h2c.Map(fp2.Small(5, 6))
	if h2c.Clear(p.Add(q)) != h2c.Clear(p).Add(h2c.Clear(q)) || h2c.Clear(p.Neg()) != h2c.Clear(p).Neg() {
		t.Error("Clear of a sum, or of a negative")
	}
}

// P12.1, P12.2: each call ends, also of a point that is on no curve.
func TestClearOfOthers(t *testing.T) {
	for _, u := range numbers() {
		x := element(t, u)
		h2c.Clear(g2.P{X: x, Y: x})
		h2c.Clear(g2.P{X: x})
		h2c.Clear(g2.P{Y: x})
	}
}

// P12.3: the RFC's own examples.
func TestHashKnown(t *testing.T) {
	for i, want := range [][4]string{
		{
			"0141ebfbdca40eb85b87142e130ab689c673cf60f1a3e98d69335266f30d9b8d4ac44c1038e9dcdd5393faf5c41fb78a", "05cb8437535e20ecffaef7752baddf98034139c38452458baeefab379ba13dff5bf5dd71b72418717047f5b0f37da03d",
			"0503921d7f6a12805e72940b963c0cf3471c7b2a524950ca195d11062ee75ec076daf2d4bc358c4b190c0c98064fdd92", "12424ac32561493f3fe3c260708a12b7c620e7be00099a974e259ddc7d1f6395c3c811cdd19f1e8dbf3e9ecfdcbab8d6",
		},
		{
			"02c2d18e033b960562aae3cab37a27ce00d80ccd5ba4b7fe0e7a210245129dbec7780ccc7954725f4168aff2787776e6", "139cddbccdc5e91b9623efd38c49f81a6f83f175e80b06fc374de9eb4b41dfe4ca3a230ed250fbe3a2acf73a41177fd8",
			"1787327b68159716a37440985269cf584bcb1e621d3a7202be6ea05c4cfe244aeb197642555a0645fb87bf7466b2ba48", "00aa65dae3c8d732d10ecd2c50f8a1baf3001578f71c694e03866e9f3d49ac1e1ce70dd94a733534f106d4cec0eddd16",
		},
		{
			"121982811d2491fde9ba7ed31ef9ca474f0e1501297f68c298e9f4c0028add35aea8bb83d53c08cfc007c1e005723cd0", "190d119345b94fbd15497bcba94ecf7db2cbfd1e1fe7da034d26cbba169fb3968288b3fafb265f9ebd380512a71c3f2c",
			"05571a0f8d3c08d094576981f4a3b8eda0a8e771fcdcc8ecceaf1356a6acf17574518acb506e435b639353c2e14827c8", "0bb5e7572275c567462d91807de765611490205a941a5a6af3b1691bfe596c31225d3aabdf15faff860cb4ef17c7c3be",
		},
		{
			"19a84dd7248a1066f737cc34502ee5555bd3c19f2ecdb3c7d9e24dc65d4e25e50d83f0f77105e955d78f4762d33c17da", "0934aba516a52d8ae479939a91998299c76d39cc0c035cd18813bec433f587e2d7a4fef038260eef0cef4d02aae3eb91",
			"14f81cd421617428bc3b9fe25afbb751d934a00493524bc4e065635b0555084dd54679df1536101b2c979c0152d09192", "09bcccfa036b4847c9950780733633f13619994394c23ff0b32fa6b795844f4a0673e20282d07bc69641cee04f5e5662",
		},
		{
			"01a6ba2f9a11fa5598b2d8ace0fbe0a0eacb65deceb476fbbcb64fd24557c2f4b18ecfc5663e54ae16a84f5ab7f62534", "11fca2ff525572795a801eed17eb12785887c7b63fb77a42be46ce4a34131d71f7a73e95fee3f812aea3de78b4d01569",
			"0b6798718c8aed24bc19cb27f866f1c9effcdbf92397ad6448b5c9db90d2b9da6cbabf48adc1adf59a1a28344e79d57e", "03a47f8e6d1763ba0cad63d6114c0accbef65707825a511b251a660a9b3994249ae4e63fac38b23da0c398689ee2ab52",
		},
	} {
		text := texts()[i]
		if got := written(h2c.Hash([]byte(text), []byte(hashTag))); got != want {
			t.Errorf("Hash of %q: %v", text, got)
		}
	}
}

// P12.3: the sum of two Maps, cleared, for texts and tags of many lengths.
func TestHash(t *testing.T) {
	long := bytes.Repeat([]byte("long"), 100)
	seen := map[g2.P]string{}
	for _, msg := range [][]byte{nil, {0}, {1}, {0, 0}, long[:31], long[:64], long} {
		for _, tag := range [][]byte{nil, {0}, {1}, long[:255], long[:256], long} {
			what := fmt.Sprintf("%q, tag %q", msg, tag)
			got := h2c.Hash(msg, tag)
			us, e := xmd.Numbers(msg, tag, 2)
			if e != api.OK || got != h2c.Clear(h2c.Map(us[0]).Add(h2c.Map(us[1]))) {
				t.Errorf("Hash of %s: %v", what, written(got))
			}
			if !got.In() || got == (g2.P{}) {
				t.Errorf("Hash of %s is nought, or not in the group", what)
			}
			if other, is := seen[got]; is {
				t.Errorf("Hash of %s is that of %s", what, other)
			}
			seen[got] = what
		}
	}
}

// P12.3: nil and empty are one.
func TestHashNil(t *testing.T) {
	if h2c.Hash(nil, nil) != h2c.Hash([]byte{}, []byte{}) {
		t.Error("Hash of nil is not that of none")
	}
}

// P12.3: what is handed in stays as it is, the room behind it included.
func TestHashArgumentsStay(t *testing.T) {
	kept := bytes.Repeat([]byte("abcdefg"), 100)
	msg, tag := bytes.Clone(kept), bytes.Clone(kept)
	for _, n := range []int{0, 5, 255, 256} {
		h2c.Hash(msg[:n], tag[:n])
		if !bytes.Equal(msg, kept) || !bytes.Equal(tag, kept) {
			t.Fatalf("an argument of %d bytes was changed", n)
		}
	}
}

func BenchmarkMap(b *testing.B) {
	u := fp2.Small(3, 4)
	for b.Loop() {
		u = h2c.Map(u).X
	}
}

func BenchmarkClear(b *testing.B) {
	p := h2c.Map(fp2.Small(3, 4))
	for b.Loop() {
		h2c.Clear(p)
	}
}

func BenchmarkHash(b *testing.B) {
	text := make([]byte, 32)
	for b.Loop() {
		text[0]++
		h2c.Hash(text, []byte(hashTag))
	}
}
