package curve_test

import (
	"testing"

	"cresset/curve"
)

// size is the modulus of the small field that a test stands in.
var size int

// small is a number of that field: there all points can be gone through.
type small int

func in(n int) small { return small((n%size + size) % size) }

func (x small) Add(y small) small { return in(int(x + y)) }
func (x small) Sub(y small) small { return in(int(x - y)) }
func (x small) Mul(y small) small { return in(int(x * y)) }
func (x small) Square() small     { return x.Mul(x) }
func (x small) Zero() bool        { return x == 0 }
func (x small) Inv() small {
	for n := range size {
		if y := small(n); x.Mul(y) == 1 {
			return y
		}
	}
	return 0
}

// spot is where a point lies; the zero one is the point at infinity.
type spot struct {
	there bool
	x, y  small
}

// spots are all points of the curve y squared = x cubed + b.
func spots(b int) []spot {
	all := []spot{{}}
	for x := range size {
		for y := range size {
			if in(y*y-x*x*x-b) == 0 {
				all = append(all, spot{true, small(x), small(y)})
			}
		}
	}
	return all
}

// plus is the sum by chords and tangents: it comes to nought where the line is upright.
func (a spot) plus(b spot) spot {
	if !a.there {
		return b
	}
	if !b.there {
		return a
	}
	high, wide := b.y.Sub(a.y), b.x.Sub(a.x)
	if wide == 0 {
		if a.y.Add(b.y) == 0 {
			return spot{}
		}
		high, wide = in(3).Mul(a.x.Square()), a.y.Add(a.y)
	}
	slope := high.Mul(wide.Inv())
	x := slope.Square().Sub(a.x).Sub(b.x)
	return spot{true, x, slope.Mul(a.x.Sub(x)).Sub(a.y)}
}

// forms are a point in several forms: as Of gives it, and as sums give it.
func forms(a spot, all []spot) []curve.Point[small] {
	if !a.there {
		return []curve.Point[small]{{}, curve.Of[small](2, 0, 1).Double()}
	}
	found := []curve.Point[small]{curve.Of(a.x, a.y, 1)}
	for _, b := range all {
		for _, c := range all {
			if len(found) == 3 {
				return found
			}
			if b.there && c.there && b.x != c.x && b.plus(c) == a {
				found = append(found, curve.Of(b.x, b.y, 1).Add(curve.Of(c.x, c.y, 1)))
			}
		}
	}
	return found
}

// check holds a point against where it should lie. None lies at (0, 0): so what At says of infinity is its own.
func check(t *testing.T, what string, got curve.Point[small], want spot) {
	t.Helper()
	if x, y := got.At(); x != want.x || y != want.y {
		t.Errorf("%s modulo %d: (%d, %d), not (%d, %d)", what, size, x, y, want.x, want.y)
	}
}

// curves does something for each curve over some small fields: among them some with points of order 2 and 3.
func curves(do func(all []spot)) {
	for _, size = range []int{5, 7, 11, 13} {
		// With b 0 the curve has a knot at (0, 0), where no tangent is.
		for b := 1; b < size; b++ {
			do(spots(b))
		}
	}
}

func TestAdd(t *testing.T) {
	curves(func(all []spot) {
		for _, a := range all {
			for _, b := range all {
				for _, p := range forms(a, all) {
					for _, q := range forms(b, all) {
						check(t, "Add", p.Add(q), a.plus(b))
					}
				}
			}
		}
	})
}

func TestDouble(t *testing.T) {
	curves(func(all []spot) {
		for _, a := range all {
			for _, p := range forms(a, all) {
				check(t, "Double", p.Double(), a.plus(a))
			}
		}
	})
}

func TestTimes(t *testing.T) {
	curves(func(all []spot) {
		for _, a := range all {
			for _, p := range forms(a, all) {
				check(t, "Times of no bytes", p.Times(nil), spot{})
				sum := spot{}
				for n := range 300 {
					check(t, "Times", p.Times([]byte{byte(n >> 8), byte(n)}), sum)
					sum = sum.plus(a)
				}
			}
		}
	})
}
