package part_test

import (
	"bytes"
	"fmt"
	"math"
	"math/big"
	"math/rand/v2"
	"slices"
	"testing"

	"cresset/api"
	"cresset/bls"
	"cresset/fp2"
	"cresset/fr"
	"cresset/g1"
	"cresset/g2"
	"cresset/h2c"
	"cresset/part"
	"cresset/poly"
)

func source(seed uint64) *rand.Rand { return rand.New(rand.NewPCG(15, seed)) }

// drawn is some scalar, the same one each time.
func drawn(from *rand.Rand) fr.El {
	b := make([]byte, fr.Size+8)
	for i := range b {
		b[i] = byte(from.Uint32())
	}
	return fr.Wide(b)
}

// some is a polynomial of so many factors.
func some(seed uint64, n int) poly.Poly {
	from := source(seed)
	p := make(poly.Poly, n)
	for i := range p {
		p[i] = drawn(from)
	}
	return p
}

// signed are the parts of members, of a polynomial's shares.
func signed(p poly.Poly, msg []byte, members ...int) []part.Part {
	var parts []part.Part
	for _, x := range members {
		parts = append(parts, part.Sign(x, p.At(x), msg))
	}
	return parts
}

// everyone's parts, by their numbers; the one at 0 is nobody's.
func everyone(p poly.Poly, msg []byte) []part.Part {
	return append(make([]part.Part, 1), signed(p, msg, 1, 2, 3, 4, 5, 6, 7, 8, 9)...)
}

// stray is a point of the curve that isn't one of the group.
func stray(t testing.TB) g2.P {
	t.Helper()
	p := h2c.Map(fp2.Small(1, 2))
	if !p.On() || p.In() || p == (g2.P{}) {
		t.Fatal("the stray point")
	}
	return p
}

// spoiled is a point and a stray one whose order is none of r's multiples: the sum is not of the group.
func spoiled(t testing.TB, p g2.P) g2.P {
	t.Helper()
	order, _ := new(big.Int).SetString("73eda753299d7d483339d80809a1d80553bda402fffe5bfeffffffff00000001", 16)
	small := stray(t).Times(order.Bytes())
	if small == (g2.P{}) || small.In() {
		t.Fatal("the point of the cofactor")
	}
	return p.Add(small)
}

// nobodies are numbers that are no member's.
func nobodies() []int {
	return []int{0, 10, -1, -9, 255, 257, 1<<32 + 1, math.MaxInt, math.MinInt}
}

// P15.1: whoever it is said to be from; the share's signature of the text.
func TestSign(t *testing.T) {
	for _, msg := range [][]byte{nil, {}, []byte("m"), bytes.Repeat([]byte{7}, api.MaxText+1)} {
		for i, share := range []fr.El{{}, fr.Of(1), fr.Of(1).Neg(), fr.Of(13), some(1, 1)[0]} {
			for _, from := range append(nobodies(), 1, 2, 9) {
				if got := part.Sign(from, share, msg); got.From != from || got.Sig != bls.Sign(share, msg) {
					t.Errorf("share %d of %d, %d bytes", i, from, len(msg))
				}
			}
		}
	}
}

// P15.1: the text stays, the room behind it too, and what lies there doesn't count.
func TestSignArguments(t *testing.T) {
	kept := []byte("some text, and more")
	msg := bytes.Clone(kept)
	if part.Sign(1, fr.Of(5), msg[:9]) != part.Sign(1, fr.Of(5), []byte("some text")) || !bytes.Equal(msg, kept) {
		t.Error("Sign of a text with more behind it")
	}
}

// P15.2: each member's part is right, of polynomials of each length, with factors that are 0.
func TestCheck(t *testing.T) {
	msg := []byte("round 1")
	point := bls.Point(msg)
	for n := 1; n <= api.MaxNodes+1; n++ {
		p := some(uint64(n), n)
		if n > 3 {
			p[0], p[n-1] = fr.El{}, fr.El{}
		}
		public := p.Commit()
		for _, x := range everyone(p, msg)[1:] {
			if e := part.Check(public, point, x); e != api.OK {
				t.Errorf("%d factors, the part of %d: %d", n, x.From, e)
			}
		}
	}
}

// P15.2: another's part, another text's, another polynomial's, and what is near it.
func TestCheckSig(t *testing.T) {
	msg := []byte("round 2")
	point := bls.Point(msg)
	p := some(20, 3)
	public := p.Commit()
	for _, x := range everyone(p, msg)[1:] {
		wrong := []g2.P{{}, x.Sig.Neg(), x.Sig.Add(x.Sig), x.Sig.Add(g2.Gen()), point, g2.Gen(), bls.Sign(p.At(x.From), []byte("round 3")), bls.Sign(p.At(x.From+1), msg), bls.Sign(p.At(0), msg), bls.Sign(some(21, 3).At(x.From), msg)}
		for i, sig := range wrong {
			if e := part.Check(public, point, part.Part{From: x.From, Sig: sig}); e != api.ErrSig {
				t.Errorf("member %d, wrong signature %d: %d", x.From, i, e)
			}
		}
		for y := 1; y <= api.MaxNodes; y++ {
			if e := part.Check(public, point, part.Part{From: y, Sig: x.Sig}); (e == api.OK) != (x.From == y) || e != api.OK && e != api.ErrSig {
				t.Errorf("the part of %d as that of %d: %d", x.From, y, e)
			}
		}
		if part.Check(public, bls.Point([]byte("round 3")), x) != api.ErrSig || part.Check(some(21, 3).Commit(), point, x) != api.ErrSig || part.Check(public[:2], point, x) != api.ErrSig {
			t.Errorf("the part of %d is right elsewhere", x.From)
		}
	}
}

// P15.2: a share that is 0, and a commitment of no points: nought alone is right.
func TestCheckNought(t *testing.T) {
	point := bls.Point(nil)
	minus := poly.Poly{fr.Of(3), fr.Of(1).Neg()}
	for i, public := range []poly.Public{nil, {}, {g1.P{}}, minus.Commit()} {
		if e := part.Check(public, point, part.Part{From: 3}); e != api.OK {
			t.Errorf("nought, commitment %d: %d", i, e)
		}
		if e := part.Check(public, point, part.Part{From: 3, Sig: point}); e != api.ErrSig {
			t.Errorf("more than nought, commitment %d: %d", i, e)
		}
	}
	if e := part.Check(minus.Commit(), point, part.Part{From: 2}); e != api.ErrSig {
		t.Errorf("nought where the share is 1: %d", e)
	}
}

// P15.2: no member's number first, then no point of the group.
func TestCheckWrong(t *testing.T) {
	msg := []byte("round 4")
	point := bls.Point(msg)
	p := some(22, 2)
	public, right := p.Commit(), bls.Sign(p.At(1), msg)
	off := g2.P{X: right.X, Y: right.X}
	sigs := []g2.P{right, right.Neg(), {}, stray(t), spoiled(t, right), off, {X: right.X}, {Y: right.Y}, {X: fp2.Small(1, 0), Y: fp2.Small(1, 1)}}
	for _, from := range nobodies() {
		for i, sig := range append(sigs, bls.Sign(p.At(from), msg)) {
			if e := part.Check(public, point, part.Part{From: from, Sig: sig}); e != api.ErrIndex {
				t.Errorf("number %d, signature %d: %d", from, i, e)
			}
		}
	}
	for _, from := range []int{1, 2, 9} {
		for i, sig := range sigs[3:] {
			if e := part.Check(public, point, part.Part{From: from, Sig: sig}); e != api.ErrGroup {
				t.Errorf("member %d, no point of the group %d: %d", from, i, e)
			}
			if e := part.Check(nil, g2.P{}, part.Part{From: from, Sig: sig}); e != api.ErrGroup {
				t.Errorf("member %d, no commitment, no point of the group %d: %d", from, i, e)
			}
		}
	}
}

// P15.3, P15.4: any members' parts, in any order: at least as many as there are factors make the secret's signature.
func TestJoin(t *testing.T) {
	msg := []byte("round 5")
	from := source(30)
	for n := 1; n <= api.MaxNodes; n++ {
		p := some(uint64(30+n), n)
		public, all, want := p.Commit(), everyone(p, msg), bls.Sign(p.At(0), msg)
		for set := range 1 << api.MaxNodes {
			var parts []part.Part
			for i := range api.MaxNodes {
				if set>>i&1 == 1 {
					parts = append(parts, all[i+1])
				}
			}
			// Of those that are enough not all lists are gone through: each takes milliseconds.
			if len(parts) >= n && from.IntN(16) > 0 && set != 511 {
				continue
			}
			from.Shuffle(len(parts), func(i, j int) { parts[i], parts[j] = parts[j], parts[i] })
			sig, e := part.Join(public, parts)
			if len(parts) < n && (e != api.ErrFew || sig != (g2.P{})) {
				t.Errorf("%d factors, %d parts: %d", n, len(parts), e)
			}
			if len(parts) >= n && (e != api.OK || sig != want) {
				t.Errorf("%d factors, members %b: %d", n, set, e)
			}
		}
	}
}

// P15.4: what is joined verifies by the secret's public key; polynomials with factors that are 0.
func TestJoinVerifies(t *testing.T) {
	msg := []byte("round 6")
	for i, p := range []poly.Poly{{fr.Of(7), fr.Of(2)}, {fr.Of(1).Neg(), fr.El{}, fr.El{}}, {fr.Of(5)}, some(40, 5)} {
		public := p.Commit()
		sig, e := part.Join(public, signed(p, msg, 8, 2, 5, 3, 9, 6))
		if e != api.OK || !bls.Verify(public.At(0), msg, sig) || !bls.Verify(bls.Public(p[0]), msg, sig) {
			t.Errorf("polynomial %d: %d", i, e)
		}
	}
	p := poly.Poly{fr.El{}, fr.Of(2)}
	if sig, e := part.Join(p.Commit(), signed(p, msg, 3, 1)); e != api.OK || sig != (g2.P{}) {
		t.Errorf("the secret 0: %d", e)
	}
}

// P15.3: the lowest ones alone are joined, unlooked at: as poly.Sig has it.
func TestJoinLowest(t *testing.T) {
	msg := []byte("round 7")
	p := some(41, 3)
	public, all, want := p.Commit(), everyone(p, msg), bls.Sign(p.At(0), msg)
	wrong := all[4]
	wrong.Sig = wrong.Sig.Add(g2.Gen())
	for _, parts := range [][]part.Part{{wrong, all[1], all[2], all[3]}, {all[3], wrong, all[2], all[8], all[1]}, {all[2], all[1], {From: 9, Sig: stray(t)}, wrong, all[3]}} {
		if sig, e := part.Join(public, parts); e != api.OK || sig != want {
			t.Errorf("a wrong part that isn't needed: %d", e)
		}
	}
	for _, parts := range [][]part.Part{{wrong, all[1], all[9], all[3]}, {all[9], all[3], wrong, all[8], all[1]}, {all[3], all[1], wrong}} {
		as, _ := poly.Sig([]int{1, 3, 4}, []g2.P{all[1].Sig, all[3].Sig, wrong.Sig})
		if sig, e := part.Join(public, parts); e != api.OK || sig != as || sig == want {
			t.Errorf("a wrong part among the lowest: %d", e)
		}
	}
}

// numbered are parts of such numbers.
func numbered(froms ...int) []part.Part {
	var parts []part.Part
	for i, from := range froms {
		parts = append(parts, part.Part{From: from, Sig: g2.Gen().Mul(fr.Of(uint64(i + 1)))})
	}
	return parts
}

// P15.3: by rising numbers, in whatever order the parts stand, and ahead of there being too few.
func TestJoinWrong(t *testing.T) {
	for _, x := range []struct {
		froms []int
		want  api.Errno
	}{
		{[]int{0}, api.ErrIndex},
		{[]int{10}, api.ErrIndex},
		{[]int{0, 0}, api.ErrIndex},
		{[]int{10, 10}, api.ErrIndex},
		{[]int{math.MinInt, math.MinInt}, api.ErrIndex},
		{[]int{1, 2, 3, 10}, api.ErrIndex},
		{[]int{10, 3, 2, 1}, api.ErrIndex},
		{[]int{1, 2, 3, math.MaxInt}, api.ErrIndex},
		{[]int{1, 2, 3, math.MinInt}, api.ErrIndex},
		{[]int{1, 2, 257, 3}, api.ErrIndex},
		{[]int{1, 1}, api.ErrTwice},
		{[]int{9, 1, 9}, api.ErrTwice},
		{[]int{2, 1, 3, 2}, api.ErrTwice},
		{[]int{5, 5, 5, 5}, api.ErrTwice},
		// A low number that is nobody's is told first; a high one last.
		{[]int{1, 1, 0}, api.ErrIndex},
		{[]int{9, 9, -1}, api.ErrIndex},
		{[]int{10, 1, 1}, api.ErrTwice},
		{[]int{10, 10, 9, 9}, api.ErrTwice},
		{[]int{1 << 32, 1, 1}, api.ErrTwice},
		{[]int{9 - 1<<32, 1, 1}, api.ErrIndex},
		{[]int{math.MaxInt, 4, math.MinInt, 4}, api.ErrIndex},
		{[]int{9, 8, 7, 6, 5, 4, 3, 2, 1, 1}, api.ErrTwice},
		{[]int{9, 8, 7, 6, 5, 4, 3, 2, 1, 10}, api.ErrIndex},
		{nil, api.ErrFew},
		{[]int{}, api.ErrFew},
	} {
		for n := range 12 {
			for i, public := range []poly.Public{some(50, n).Commit(), make(poly.Public, n)} {
				parts := numbered(x.froms...)
				if sig, e := part.Join(public, parts); e != x.want || sig != (g2.P{}) {
					t.Errorf("Join of %d, %d points %d: %d, not %d", x.froms, n, i, e, x.want)
				}
			}
		}
	}
}

// P15.3: no points, or more than parts.
func TestJoinFew(t *testing.T) {
	froms := []int{4, 9, 1, 7, 3, 8, 2, 6, 5}
	for n := range 13 {
		public := some(51, n).Commit()
		for m := range len(froms) + 1 {
			want := api.OK
			if n == 0 || m < n {
				want = api.ErrFew
			}
			if sig, e := part.Join(public, numbered(froms[:m]...)); e != want || e != api.OK && sig != (g2.P{}) {
				t.Errorf("%d points, %d parts: %d, not %d", n, m, e, want)
			}
		}
	}
	for _, public := range []poly.Public{nil, {}} {
		if sig, e := part.Join(public, numbered(1, 2)); e != api.ErrFew || sig != (g2.P{}) {
			t.Errorf("no points: %d", e)
		}
	}
}

// P15.3: the parts stay in their order, the room behind them too, and what lies there doesn't count; nor does Check change a commitment.
func TestArguments(t *testing.T) {
	msg := []byte("round 8")
	p := some(60, 2)
	public, parts := p.Commit(), signed(p, msg, 9, 3, 8, 1, 3)
	keptPublic, kept := slices.Clone(public), slices.Clone(parts)
	for n := range len(parts) {
		sig, e := part.Join(public, parts[:n])
		if n >= 2 && (e != api.OK || sig != bls.Sign(p.At(0), msg)) {
			t.Errorf("the first %d: %d", n, e)
		}
	}
	if part.Check(public, bls.Point(msg), parts[0]) != api.OK || part.Check(public[:1], bls.Point(msg), parts[0]) != api.ErrSig {
		t.Error("Check")
	}
	if !slices.Equal(public, keptPublic) || !slices.Equal(parts, kept) {
		t.Error("an argument has changed")
	}
}

// P15.2, P15.3: of points out of the group, or of the curve, the calls end.
func TestOutside(t *testing.T) {
	off, offs := g1.P{X: g1.Gen().X, Y: g1.Gen().X}, g2.P{X: g2.Gen().X, Y: g2.Gen().X}
	for i, public := range []poly.Public{{off}, {off, g1.Gen()}, {g1.Gen(), {}, off}} {
		for n, point := range []g2.P{offs, stray(t), {}} {
			if e := part.Check(public, point, part.Part{From: 4, Sig: g2.Gen()}); e != api.OK && e != api.ErrSig {
				t.Errorf("Check, commitment %d, point %d: %d", i, n, e)
			}
		}
		for _, sig := range []g2.P{offs, stray(t), {}} {
			if _, e := part.Join(public, []part.Part{{From: 3, Sig: sig}, {From: 1, Sig: offs}, {From: 2}}); e != api.OK {
				t.Errorf("Join, commitment %d: %d", i, e)
			}
		}
	}
}

// The document's example: of 7 + 2 x the parts of 1 and 3, and of 2 and 3, make one signature.
func Example() {
	p, msg := poly.Poly{fr.Of(7), fr.Of(2)}, []byte("m")
	first, e := part.Join(p.Commit(), signed(p, msg, 1, 3))
	second, f := part.Join(p.Commit(), signed(p, msg, 3, 2))
	fmt.Println(e, f, first == second, first == bls.Sign(fr.Of(7), msg))
	// Output: 0 0 true true
}

func BenchmarkCheck(b *testing.B) {
	p := some(70, 3)
	public, point, x := p.Commit(), bls.Point(nil), part.Sign(9, p.At(9), nil)
	for b.Loop() {
		part.Check(public, point, x)
	}
}

func BenchmarkJoin(b *testing.B) {
	p := some(71, 3)
	public, parts := p.Commit(), signed(p, nil, 9, 5, 1)
	for b.Loop() {
		part.Join(public, parts)
	}
}
