package codec_test

import (
	"bytes"
	"encoding/hex"
	"math/big"
	"math/rand/v2"
	"slices"
	"testing"

	"cresset/api"
	"cresset/codec"
	"cresset/fp"
	"cresset/fp2"
	"cresset/fr"
	"cresset/g1"
	"cresset/g2"
)

const (
	modulusHex = "1a0111ea397fe69a4b1ba7b6434bacd764774b84f38512bf6730d2a0f6b0f6241eabfffeb153ffffb9feffffffffaaab"
	genHex     = "17f1d3a73197d7942695638c4fa9ac0fc3688c4f9774b905a14e3a3f171bac586c55e83ff97a1aeffb3af00adb22c6bb" +
		"08b3f481e3aaa0f1a09e30ed741d8ae4fcf5e095d5d00af600db18cb2c04b3edd03cc744a2888ae40caa232946c5e7e1"
	genTwoHex = "13e02b6052719f607dacd3a088274f65596bd0d09920b61ab5da61bbdc7f5049334cf11213945d57e5ac7d055d042b7e" +
		"024aa2b2f08f0a91260805272dc51051c6e47ad4fa403b02b4510b647ae3d1770bac0326a805bbefd48056c8c121bdb8" +
		"0606c4a02ea734cc32acd2b02bc28b99cb3e287e85a763af267492ab572e99ab3f370d275cec1da1aaa9075ff05f79be" +
		"0ce5d527727d6e118cc9cdc6da2e351aadfd9baa8cbdd3a76d429a695160d12c923ac9cc3baca289e193548608b82801"
	largest = 0x1f // what the marks leave of a first byte
)

var modulus, _ = new(big.Int).SetString(modulusHex, 16)

// side is one of the two groups: the tests go through both alike. A number is told by its parts, the highest first.
type side[P comparable] struct {
	name        string
	parts       int
	short, long func(P) []byte
	read        func([]byte) (P, api.Errno)
	point       func(b []byte) (P, bool) // by coordinates, without marks: whether they are numbers
	on, in      func(P) bool
	neg         func(P) P
	above       func(x []*big.Int) []*big.Int // a root of the square above x, or nil
	group       []P
	strays      []P // of the curve, but not of the group
}

func (s side[P]) size() int { return fp.Size * s.parts }

// first is the first group.
func first() side[g1.P] {
	from := source(1)
	s := side[g1.P]{
		name:  "G1",
		parts: 1,
		short: func(p g1.P) []byte { b := codec.G1(p); return b[:] },
		long:  func(p g1.P) []byte { b := codec.G1Full(p); return b[:] },
		read:  codec.ReadG1,
		point: func(b []byte) (g1.P, bool) {
			x, e := fp.Read(b[:fp.Size])
			y, f := fp.Read(b[fp.Size:])
			return g1.P{X: x, Y: y}, e == api.OK && f == api.OK
		},
		on:    g1.P.On,
		in:    g1.P.In,
		neg:   g1.P.Neg,
		group: []g1.P{{}, g1.Gen(), g1.Gen().Neg(), g1.Gen().Mul(fr.Of(2))},
	}
	s.above = func(x []*big.Int) []*big.Int {
		square := new(big.Int).Exp(x[0], big.NewInt(3), modulus)
		root := square.ModSqrt(square.Mod(square.Add(square, big.NewInt(4)), modulus), modulus)
		if root == nil {
			return nil
		}
		return []*big.Int{root}
	}
	for range 6 {
		s.group = append(s.group, g1.Gen().Times(drawn(from, fr.Size)))
	}
	two := fp.Of(2)
	s.strays = []g1.P{{Y: two}, {Y: two.Neg()}, g1.Gen().Add(g1.P{Y: two})}
	for len(s.strays) < 7 {
		x := fp.Wide(drawn(from, fp.Size+8))
		if y, ok := x.Square().Mul(x).Add(fp.Of(4)).Sqrt(); ok {
			s.strays = append(s.strays, g1.P{X: x, Y: y}, g1.P{X: x, Y: y.Neg()})
		}
	}
	return s
}

// second is the second group.
func second() side[g2.P] {
	from := source(2)
	s := side[g2.P]{
		name:  "G2",
		parts: 2,
		short: func(p g2.P) []byte { b := codec.G2(p); return b[:] },
		long:  func(p g2.P) []byte { b := codec.G2Full(p); return b[:] },
		read:  codec.ReadG2,
		point: func(b []byte) (g2.P, bool) {
			x, e := fp2.Read(b[:fp2.Size])
			y, f := fp2.Read(b[fp2.Size:])
			return g2.P{X: x, Y: y}, e == api.OK && f == api.OK
		},
		on:    g2.P.On,
		in:    g2.P.In,
		neg:   g2.P.Neg,
		group: []g2.P{{}, g2.Gen(), g2.Gen().Neg(), g2.Gen().Mul(fr.Of(2))},
	}
	s.above = func(parts []*big.Int) []*big.Int {
		var b [fp2.Size]byte
		x, _ := fp2.Read(join(b[:], parts))
		y, ok := x.Square().Mul(x).Add(fp2.Small(4, 4)).Sqrt()
		if !ok {
			return nil
		}
		b = y.Bytes()
		return split(b[:])
	}
	for range 6 {
		s.group = append(s.group, g2.Gen().Times(drawn(from, fr.Size)))
	}
	s.strays = flat()
	for len(s.strays) < 7 {
		x := fp2.El{A: fp.Wide(drawn(from, fp.Size+8)), B: fp.Wide(drawn(from, fp.Size+8))}
		if y, ok := x.Square().Mul(x).Add(fp2.Small(4, 4)).Sqrt(); ok {
			s.strays = append(s.strays, g2.P{X: x, Y: y}, g2.P{X: x, Y: y.Neg()})
		}
	}
	return s
}

// flat are points of the second curve, not of the group, with Ys that have nothing beside i: there the other part tells which one is Large.
func flat() []g2.P {
	for n := uint64(1); ; n++ {
		y := fp2.Small(n, 0)
		if x, ok := cubicRoot(y.Square().Sub(fp2.Small(4, 4))); ok {
			return []g2.P{{X: x, Y: y}, {X: x, Y: y.Neg()}}
		}
	}
}

// cubicRoot is a third root, and whether there is one. With p^2 - 1 as a power of 3 times a rest: to the power that is 1/3 modulo the rest a number is its own root, but for a factor that the power of 3 brings to 1.
func cubicRoot(x fp2.El) (fp2.El, bool) {
	rest := new(big.Int).Mul(modulus, modulus)
	rest.Sub(rest, big.NewInt(1))
	three, none := big.NewInt(3), new(big.Int)
	third := big.NewInt(1)
	for new(big.Int).Mod(rest, three).Cmp(none) == 0 {
		rest.Div(rest, three)
		third.Mul(third, three)
	}
	root := power(x, new(big.Int).ModInverse(three, rest))
	// 1 + i is no cube: so these are all such factors.
	turn := power(fp2.Small(1, 1), rest)
	for range third.Int64() {
		if root.Square().Mul(root) == x {
			return root, true
		}
		root = root.Mul(turn)
	}
	return fp2.El{}, false
}

func power(x fp2.El, n *big.Int) fp2.El {
	y := fp2.Small(1, 0)
	for i := n.BitLen() - 1; i >= 0; i-- {
		if y = y.Square(); n.Bit(i) == 1 {
			y = y.Mul(x)
		}
	}
	return y
}

func source(seed uint64) *rand.Rand { return rand.New(rand.NewPCG(9, seed)) }

// drawn are as many bytes, the same ones each time.
func drawn(from *rand.Rand, count int) []byte {
	b := make([]byte, count)
	for i := range b {
		b[i] = byte(from.Uint32())
	}
	return b
}

// numbers are bytes of as many numbers of the field.
func numbers(from *rand.Rand, parts int) []byte {
	b := drawn(from, fp.Size*parts)
	for at := 0; at < len(b); at += fp.Size {
		b[at] &= 0x0f
	}
	return b
}

// split are the numbers that pieces of 48 bytes are.
func split(b []byte) []*big.Int {
	var parts []*big.Int
	for piece := range slices.Chunk(b, fp.Size) {
		parts = append(parts, new(big.Int).SetBytes(piece))
	}
	return parts
}

// join writes numbers into pieces of 48 bytes.
func join(b []byte, parts []*big.Int) []byte {
	for i, n := range parts {
		n.FillBytes(b[fp.Size*i : fp.Size*(i+1)])
	}
	return b
}

// large tells whether a number is greater than its negative: the first part that isn't 0 tells.
func large(parts []*big.Int) bool {
	for _, n := range parts {
		if n.Sign() != 0 {
			return new(big.Int).Lsh(n, 1).Cmp(modulus) > 0
		}
	}
	return false
}

// coordinates are a point's X and Y as bytes without marks.
func (s side[P]) coordinates(t *testing.T, p P) []byte {
	t.Helper()
	switch p := any(p).(type) {
	case g1.P:
		x, y := p.X.Bytes(), p.Y.Bytes()
		return slices.Concat(x[:], y[:])
	case g2.P:
		x, y := p.X.Bytes(), p.Y.Bytes()
		return slices.Concat(x[:], y[:])
	}
	t.Fatal("no point")
	return nil
}

// points are those of the group and the strays.
func (s side[P]) points() []P { return slices.Concat(s.group, s.strays) }

// forms are a point's two forms as the chapter has them.
func (s side[P]) forms(t *testing.T, p P) (short, long []byte) {
	t.Helper()
	long = s.coordinates(t, p)
	short = slices.Clone(long[:s.size()])
	short[0] |= 0x80
	if p == *new(P) {
		short[0] |= 0x40
		long[0] |= 0x40
	} else if large(split(long[s.size():])) {
		short[0] |= 0x20
	}
	return short, long
}

// judge is what the chapter says of bytes, by math/big.
func (s side[P]) judge(b []byte) (P, api.Errno) {
	var none P
	brief := len(b) == s.size()
	if !brief && len(b) != 2*s.size() {
		return none, api.ErrLen
	}
	seven, six, five := b[0]&0x80 != 0, b[0]&0x40 != 0, b[0]&0x20 != 0
	plain := slices.Clone(b)
	plain[0] &= largest
	nought := new(big.Int).SetBytes(plain).Sign() == 0
	if seven != brief || five && (six || !brief) || six && !nought {
		return none, api.ErrForm
	}
	if six {
		return none, api.OK
	}
	parts := split(plain)
	for _, n := range parts {
		if n.Cmp(modulus) >= 0 {
			return none, api.ErrField
		}
	}
	if brief {
		y := s.above(parts)
		if y == nil {
			return none, api.ErrCurve
		}
		if large(y) != five {
			y = negative(y)
		}
		plain = join(append(plain, make([]byte, s.size())...), append(parts, y...))
	}
	p, _ := s.point(plain)
	if p == none || !s.on(p) {
		return none, api.ErrCurve
	}
	if !s.in(p) {
		return none, api.ErrGroup
	}
	return p, api.OK
}

func negative(parts []*big.Int) []*big.Int {
	var all []*big.Int
	for _, n := range parts {
		m := new(big.Int).Neg(n)
		all = append(all, m.Mod(m, modulus))
	}
	return all
}

// expect holds what is read of bytes against what should be; the bytes, and those behind them, must stay.
func (s side[P]) expect(t *testing.T, what string, b []byte, want P, fault api.Errno) {
	t.Helper()
	room := append(slices.Clone(b), 1, 2, 3)
	kept := bytes.Clone(room)
	if p, e := s.read(room[:len(b)]); p != want || e != fault {
		t.Errorf("Read%s, %s: %x: error %d, not %d; the point is right: %t", s.name, what, b, e, fault, p == want)
	}
	if !bytes.Equal(room, kept) {
		t.Errorf("Read%s, %s: %x has become %x", s.name, what, kept, room)
	}
}

// refused expects an error.
func (s side[P]) refused(t *testing.T, what string, b []byte, fault api.Errno) {
	t.Helper()
	s.expect(t, what, b, *new(P), fault)
}

// judged expects what judge says.
func (s side[P]) judged(t *testing.T, what string, b []byte) {
	t.Helper()
	p, e := s.judge(b)
	s.expect(t, what, b, p, e)
	if e != api.OK {
		return
	}
	// P9.3: nothing is read but what is written.
	if !bytes.Equal(s.short(p), b) && !bytes.Equal(s.long(p), b) {
		t.Errorf("Read%s, %s: reads %x, which no point is written as", s.name, what, b)
	}
}

// The chapter's examples, and the forms of the generators byte by byte.
func TestExamples(t *testing.T) {
	nought := codec.G1(g1.P{})
	if want := append([]byte{0xc0}, make([]byte, 47)...); !bytes.Equal(nought[:], want) {
		t.Errorf("G1 of P{} is %x", nought)
	}
	one, two := codec.G1(g1.Gen()), codec.G2(g2.Gen())
	oneFull, twoFull := codec.G1Full(g1.Gen()), codec.G2Full(g2.Gen())
	if got := hex.EncodeToString(oneFull[:]); got != genHex {
		t.Errorf("G1Full of the generator is %s", got)
	}
	if got := hex.EncodeToString(twoFull[:]); got != genTwoHex {
		t.Errorf("G2Full of the generator is %s", got)
	}
	if got := hex.EncodeToString(one[:]); got != "97"+genHex[2:2*fp.Size] {
		t.Errorf("G1 of the generator is %s", got)
	}
	if got := hex.EncodeToString(two[:]); got != "93"+genTwoHex[2:2*fp2.Size] {
		t.Errorf("G2 of the generator is %s", got)
	}
	one, two = codec.G1(g1.Gen().Neg()), codec.G2(g2.Gen().Neg())
	if one[0] != 0xb7 || two[0] != 0xb3 {
		t.Errorf("the generators' negatives begin %x and %x", one[0], two[0])
	}
}

// P9.1: the forms of points of the group, of others of the curve, and of P{}.
func testWrite[P comparable](t *testing.T, s side[P]) {
	higher := 0
	for _, p := range s.points() {
		if !s.on(p) || s.neg(p) == p && p != *new(P) {
			t.Fatalf("%s: a wrong point to test with", s.name)
		}
		short, long := s.forms(t, p)
		if got := s.short(p); !bytes.Equal(got, short) {
			t.Errorf("%s: %x, not %x", s.name, got, short)
		}
		if got := s.long(p); !bytes.Equal(got, long) {
			t.Errorf("%sFull: %x, not %x", s.name, got, long)
		}
		higher += int(short[0] >> 5 & 1)
	}
	if higher == 0 || higher == len(s.points()) {
		t.Errorf("%s: %d of the points are the greater ones: one kind is missing", s.name, higher)
	}
}

func TestWrite(t *testing.T) {
	testWrite(t, first())
	testWrite(t, second())
}

// P9.1: where Y has nothing beside i, bit 5 tells of the other part.
func TestWriteFlat(t *testing.T) {
	points := flat()
	low, high := codec.G2(points[0]), codec.G2(points[1])
	if points[0].Y.B != (fp.El{}) || low[0]>>5 != 4 || high[0]>>5 != 5 {
		t.Errorf("the first bytes are %x and %x", low[0], high[0])
	}
}

// P9.2, P9.3: what is written is read again.
func testRead[P comparable](t *testing.T, s side[P]) {
	for _, p := range s.group {
		s.expect(t, "a short form", s.short(p), p, api.OK)
		s.expect(t, "a long form", s.long(p), p, api.OK)
		if p != *new(P) && bytes.Equal(s.short(p), s.short(s.neg(p))) {
			t.Errorf("%s: a point and its negative have one form", s.name)
		}
	}
}

func TestRead(t *testing.T) {
	testRead(t, first())
	testRead(t, second())
}

// P9.2: ErrLen, whatever the bytes say.
func testLen[P comparable](t *testing.T, s side[P]) {
	s.refused(t, "nothing", nil, api.ErrLen)
	whole := append(s.long(s.group[1]), make([]byte, 3*s.size())...)
	for n := range whole {
		if n == s.size() || n == 2*s.size() {
			continue
		}
		for mark := range 8 {
			b := slices.Clone(whole[:n])
			if n > 0 {
				b[0] = b[0]&largest | byte(mark<<5)
			}
			s.refused(t, "a length", b, api.ErrLen)
		}
	}
}

func TestLen(t *testing.T) {
	testLen(t, first())
	testLen(t, second())
}

// P9.2: ErrForm: all marks on both lengths, with nothing, a point, and no number behind them.
func testForm[P comparable](t *testing.T, s side[P]) {
	p := s.group[4]
	for _, long := range []bool{false, true} {
		n := s.size()
		if long {
			n *= 2
		}
		point := s.coordinates(t, p)[:n]
		for _, behind := range [][]byte{make([]byte, n), point, bytes.Repeat([]byte{0xff}, n)} {
			for mark := range 8 {
				b := slices.Clone(behind)
				b[0] = b[0]&largest | byte(mark<<5)
				nought := !slices.ContainsFunc(behind, func(v byte) bool { return v != 0 })
				six := mark&2 != 0
				if (mark&4 != 0) == long || mark&1 != 0 && (six || long) || six && !nought {
					s.refused(t, "marks", b, api.ErrForm)
				} else if six {
					s.expect(t, "P{}", b, *new(P), api.OK)
				} else {
					s.judged(t, "marks", b)
				}
			}
		}
	}
}

func TestForm(t *testing.T) {
	testForm(t, first())
	testForm(t, second())
}

// P9.2: ErrForm: each single bit behind bit 6.
func testNought[P comparable](t *testing.T, s side[P]) {
	for _, b := range [][]byte{s.short(*new(P)), s.long(*new(P))} {
		s.expect(t, "P{}", b, *new(P), api.OK)
		for bit := range 8 * len(b) {
			c := slices.Clone(b)
			c[bit/8] ^= 0x80 >> (bit % 8)
			if bit != 1 {
				s.refused(t, "P{} with a bit more or less", c, api.ErrForm)
			}
		}
	}
}

func TestNought(t *testing.T) {
	testNought(t, first())
	testNought(t, second())
}

// P9.2: ErrField: each part of X, and of Y in a long form, as p, more than p, and with the bits that are marks elsewhere; the error comes ahead of ErrCurve and ErrGroup.
func testField[P comparable](t *testing.T, s side[P]) {
	more := new(big.Int).Add(modulus, big.NewInt(1))
	top := new(big.Int).Sub(new(big.Int).Lsh(big.NewInt(1), 381), big.NewInt(1))
	for _, p := range s.points()[1:] {
		short, long := s.forms(t, p)
		for _, b := range [][]byte{short, long} {
			for at := 0; at < len(b); at += fp.Size {
				for _, n := range []*big.Int{modulus, more, top} {
					c := slices.Clone(b)
					n.FillBytes(c[at : at+fp.Size])
					if at == 0 {
						c[0] |= b[0] &^ largest
					}
					s.refused(t, "no number", c, api.ErrField)
				}
				for _, mark := range []byte{0x80, 0x40, 0x20, 0xe0} {
					c := slices.Clone(b)
					if c[at] |= mark; at > 0 {
						s.refused(t, "a mark elsewhere", c, api.ErrField)
					}
				}
			}
		}
	}
}

func TestField(t *testing.T) {
	testField(t, first())
	testField(t, second())
}

// P9.2: the greatest number of the field, p - 1, and the least, 0, are numbers in each part.
func testEdges(t *testing.T, parts int, read func(what string, b []byte)) {
	less := new(big.Int).Sub(modulus, big.NewInt(1))
	for _, count := range []int{parts, 2 * parts} {
		for choice := range 1 << count {
			b := make([]byte, fp.Size*count)
			for i := range count {
				if choice>>i&1 == 1 {
					less.FillBytes(b[fp.Size*i : fp.Size*(i+1)])
				}
			}
			if count == parts {
				b[0] |= 0x80
			}
			read("edges", b)
		}
	}
}

func TestEdges(t *testing.T) {
	one, two := first(), second()
	testEdges(t, 1, func(what string, b []byte) { one.judged(t, what, b) })
	testEdges(t, 2, func(what string, b []byte) { two.judged(t, what, b) })
	low := make([]byte, 2*fp2.Size)
	one.refused(t, "no marks, all 0", low[:2*fp.Size], api.ErrCurve)
	two.refused(t, "no marks, all 0", low, api.ErrCurve)
}

// P9.2: ErrCurve: an X above which nothing is; a long form with another Y.
func testCurve[P comparable](t *testing.T, s side[P]) {
	from := source(3)
	misses := 0
	for range 30 {
		b := numbers(from, s.parts)
		if s.above(split(b)) == nil {
			misses++
			for _, mark := range []byte{0x80, 0xa0} {
				c := slices.Clone(b)
				c[0] |= mark
				s.refused(t, "nothing above X", c, api.ErrCurve)
			}
			s.refused(t, "X without Y", append(b, s.coordinates(t, s.group[5])[s.size():]...), api.ErrCurve)
		}
	}
	if misses < 5 {
		t.Errorf("%s: no more than %d X above which nothing is", s.name, misses)
	}
	for _, p := range s.points()[1:] {
		b := s.coordinates(t, p)
		for at := s.size(); at < len(b); at += fp.Size {
			c := slices.Clone(b)
			c[at+fp.Size-1] ^= 1
			s.refused(t, "another Y", c, api.ErrCurve)
		}
		turned := slices.Concat(b[s.size():], b[:s.size()])
		s.refused(t, "Y ahead of X", turned, api.ErrCurve)
		clear(b[s.size():])
		s.refused(t, "Y 0", b, api.ErrCurve)
	}
}

func TestCurve(t *testing.T) {
	testCurve(t, first())
	testCurve(t, second())
}

// P9.2: ErrGroup: points of the curve alone.
func testGroup[P comparable](t *testing.T, s side[P]) {
	for _, p := range s.strays {
		short, long := s.forms(t, p)
		s.refused(t, "a short form of a stray", short, api.ErrGroup)
		s.refused(t, "a long form of a stray", long, api.ErrGroup)
	}
}

func TestGroup(t *testing.T) {
	testGroup(t, first())
	testGroup(t, second())
}

// P9.2, P9.3: each single bit of a form turned, and any bytes.
func testTurned[P comparable](t *testing.T, s side[P]) {
	if testing.Short() {
		t.Skip("takes seconds")
	}
	for _, p := range s.group[4:5] {
		for _, b := range [][]byte{s.short(p), s.long(p)} {
			for bit := range 8 * len(b) {
				c := slices.Clone(b)
				c[bit/8] ^= 0x80 >> (bit % 8)
				s.judged(t, "a bit turned", c)
			}
		}
	}
	from := source(4)
	for range 100 {
		s.judged(t, "any bytes", drawn(from, s.size()))
		s.judged(t, "any bytes", drawn(from, 2*s.size()))
		b := numbers(from, s.parts)
		b[0] |= byte(from.Uint32()) &^ largest
		s.judged(t, "numbers", b)
	}
}

func TestTurned(t *testing.T) {
	testTurned(t, first())
	testTurned(t, second())
}

// P9.1: points that are not of the curve: the calls end.
func TestWriteElsewhere(t *testing.T) {
	one, less := fp.Of(1), fp.Of(1).Neg()
	for _, x := range []fp.El{{}, one, less} {
		for _, y := range []fp.El{{}, one, less} {
			p, q := g1.P{X: x, Y: y}, g2.P{X: fp2.El{A: x, B: y}, Y: fp2.El{A: y, B: x}}
			if codec.G1(p) != codec.G1(p) || codec.G1Full(p) != codec.G1Full(p) || codec.G2(q) != codec.G2(q) || codec.G2Full(q) != codec.G2Full(q) {
				t.Error("another answer the second time")
			}
		}
	}
}

func BenchmarkReadG1(b *testing.B) {
	form := codec.G1(g1.Gen())
	for b.Loop() {
		codec.ReadG1(form[:])
	}
}

func BenchmarkReadG2(b *testing.B) {
	form := codec.G2(g2.Gen())
	for b.Loop() {
		codec.ReadG2(form[:])
	}
}
