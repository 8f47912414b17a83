// Package curve adds up points of any curve y squared = x cubed + b. Layers 7 and 8, whose curves differ by their fields alone, stand on it.
package curve

// Field is what the numbers of a field can do. There 2 and 3 must not be 0.
type Field[E any] interface {
	Add(y E) E
	Sub(y E) E
	Mul(y E) E
	Square() E
	Inv() E // of 0 it is 0
	Zero() bool
}

// Point is the point at x/z^2 and y/z^3; the zero one, and any with z 0, is the point at infinity.
//
// So points are added without a division, which takes as long as some 600 products: At alone divides.
type Point[E Field[E]] struct {
	x, y, z E
}

// Of is the point at x and y; one is the field's 1.
func Of[E Field[E]](x, y, one E) Point[E] { return Point[E]{x, y, one} }

// At is where a point lies; of the one at infinity both are 0, as Inv of 0 is 0.
func (p Point[E]) At() (x, y E) {
	inverse := p.z.Inv()
	square := inverse.Square()
	return p.x.Mul(square), p.y.Mul(square).Mul(inverse)
}

// Add is p + q.
//
// Both are laid over the same z; there the chord's slope is high by wide, and the third point on it is the sum's negative.
func (p Point[E]) Add(q Point[E]) Point[E] {
	if p.z.Zero() {
		return q
	}
	if q.z.Zero() {
		return p
	}
	ps, qs := p.z.Square(), q.z.Square()
	px, qx := p.x.Mul(qs), q.x.Mul(ps)
	py, qy := p.y.Mul(qs).Mul(q.z), q.y.Mul(ps).Mul(p.z)
	wide, high := qx.Sub(px), qy.Sub(py)
	if wide.Zero() {
		return p.upright(high)
	}
	square := wide.Square()
	cube := square.Mul(wide)
	px = px.Mul(square)
	x := high.Square().Sub(cube).Sub(px).Sub(px)
	y := high.Mul(px.Sub(x)).Sub(py.Mul(cube))
	return Point[E]{x, y, p.z.Mul(q.z).Mul(wide)}
}

// upright is the sum of p and one at the same x: of p itself, if they are as high, or of its negative.
func (p Point[E]) upright(high E) Point[E] {
	if high.Zero() {
		return p.Double()
	}
	return Point[E]{}
}

// Double is p + p.
//
// The tangent's slope is rise by z's double; a point with y 0 comes to one with z 0, as it must.
func (p Point[E]) Double() Point[E] {
	if p.z.Zero() {
		return p
	}
	square := p.x.Square()
	rise := square.Add(square).Add(square)
	ys := p.y.Square()
	middle := quadruple(p.x.Mul(ys))
	x := rise.Square().Sub(middle).Sub(middle)
	fourth := quadruple(ys.Square())
	y := rise.Mul(middle.Sub(x)).Sub(fourth).Sub(fourth)
	half := p.y.Mul(p.z)
	return Point[E]{x, y, half.Add(half)}
}

// Times is p taken as often as bytes say, the highest first.
func (p Point[E]) Times(k []byte) Point[E] {
	var few [16]Point[E]
	for i := 1; i < len(few); i++ {
		few[i] = few[i-1].Add(p)
	}
	var sum Point[E]
	for _, v := range k {
		sum = sum.sixteen().Add(few[v>>4])
		sum = sum.sixteen().Add(few[v&15])
	}
	return sum
}

// sixteen is p taken 16 times.
func (p Point[E]) sixteen() Point[E] {
	for range 4 {
		p = p.Double()
	}
	return p
}

// quadruple is x taken 4 times.
func quadruple[E Field[E]](x E) E {
	x = x.Add(x)
	return x.Add(x)
}
