package tests

import (
	"slices"
	"testing"

	"loop.example/g01370/impl"
)

func isTriangle(p int64, a, b, c impl.Point) bool {
	return areaIn(p, a, b, c) != 0
}

// turnsOf returns each of three points with the two others behind it.
func turnsOf(a, b, c impl.Point) [][3]impl.Point {
	return [][3]impl.Point{{a, b, c}, {b, c, a}, {c, a, b}}
}

// scattered returns points that are on many lines, and some of them twice; thinned would often
// return points of a few parallel lines.
func scattered(p int64, n int) []impl.Point {
	list := everyPoint(p)
	var kept []impl.Point
	for i := range n {
		kept = append(kept, list[(i*37+i*i*11)%len(list)])
	}
	return kept
}

// cornered calls check with three points of each prime in each colour, all of them for 3 and 5, and
// with three points two of which are on a null line.
func cornered(check func(p, colour int64, a, b, c impl.Point)) {
	inColours(func(p, colour int64) {
		some := scattered(p, 13)
		if p <= 5 {
			some = everyPoint(p)
		}
		for _, a := range some {
			for _, b := range some {
				for _, c := range some {
					check(p, colour, a, b, c)
				}
			}
		}
	})
	onNullLines(check)
}

func triangles(check func(p, colour int64, a, b, c impl.Point)) {
	cornered(func(p, colour int64, a, b, c impl.Point) {
		if isTriangle(p, a, b, c) {
			check(p, colour, a, b, c)
		}
	})
}

// callsOfTriangle has each function of the layer for three points.
func callsOfTriangle(c colour, three [3]impl.Point, d impl.Point) []sample {
	a, b, e := three[0], three[1], three[2]
	return []sample{
		sampleOf("QuadreaOf", impl.QuadreaOf, c, a, b, e),
		sampleOf("MedianOf", impl.MedianOf, a, b, e),
		sampleOf("CentroidOf", impl.CentroidOf, a, b, e),
		sampleOf("AltitudeOf", impl.AltitudeOf, c, a, b, e),
		sampleOf("OrthocentreOf", impl.OrthocentreOf, c, a, b, e),
		sampleOf("CircumcentreOf", impl.CircumcentreOf, c, a, b, e),
		sampleOf("CircumquadranceOf", impl.CircumquadranceOf, c, a, b, e),
		sampleOf("EulerLineOf", impl.EulerLineOf, c, a, b, e),
		sampleOf("OrthicPoints", impl.OrthicPoints, c, a, b, e),
		sampleOf("WeightsOf", impl.WeightsOf, a, b, e, d),
	}
}

// triangleSamples has triangles, of which the first one has null sides in green and the second one
// in red, and points that are none.
func triangleSamples() []sample {
	o, a, b, d := impl.Point{0, 0}, impl.Point{1, 0}, impl.Point{1, 1}, impl.Point{2, 0}
	var list []sample
	for _, c := range []colour{0, 1, 2} {
		for _, three := range [][3]impl.Point{{o, a, b}, {b, o, d}, {a, o, d}, {o, a, a}, {a, a, o}, {a, a, a}} {
			list = append(list, callsOfTriangle(c, three, d)...)
			list = append(list, callsOfTriangle(c, three, three[0])...)
		}
	}
	return list
}

func TestTrianglesInvalidFirst(t *testing.T) { checkInvalidFirst(t, triangleSamples()) }

func TestTrianglesRangeSecond(t *testing.T) { checkRangeSecond(t, triangleSamples()) }

func TestPointsThatAreNoTriangle(t *testing.T) {
	cornered(func(p, in int64, a, b, c impl.Point) {
		if isTriangle(p, a, b, c) {
			return
		}
		for _, s := range callsOfTriangle(colour(in), [3]impl.Point{a, b, c}, impl.Point{1, 2}) {
			wantCode(t, s, p, s.args, impl.ErrState)
		}
	})
}

func TestPointsOfOneLineAreNoTriangle(t *testing.T) {
	inColours(func(p, c int64) {
		for _, l := range append(thinned(twoOfEachSlope(p), 5), nullAmong(p, c, twoOfEachSlope(p))...) {
			row := thinned(pointsOfLine(p, l), 3)
			for i, a := range row {
				three := [3]impl.Point{a, row[0], row[(i+1)%len(row)]}
				for _, s := range callsOfTriangle(colour(c), three, impl.Point{2, 1}) {
					wantCode(t, s, p, s.args, impl.ErrState)
				}
			}
		}
	})
}

// With all points of the plane: the functions that have no errors of their own have a result just
// where no line has all three points.
func TestTrianglesAreThePointsOnNoLine(t *testing.T) {
	for _, p := range []int64{3, 5} {
		lines := everyLine(p)
		for _, a := range everyPoint(p) {
			for _, b := range everyPoint(p) {
				for _, c := range everyPoint(p) {
					want := int64(impl.ErrNone)
					if slices.ContainsFunc(lines, func(l impl.Line) bool { return on(p, a, l) && on(p, b, l) && on(p, c, l) }) {
						want = impl.ErrState
					}
					_, code1 := impl.MedianOf(p, a, b, c)
					_, code2 := impl.WeightsOf(p, a, b, c, a)
					_, code3 := impl.CircumcentreOf(p, 1, a, b, c)
					if code1 != want || code2 != want || code3 != want {
						t.Errorf("%v, %v, %v for %d: codes %d, %d, %d, want %d", a, b, c, p, code1, code2, code3, want)
					}
				}
			}
		}
	}
}

func TestQuadreas(t *testing.T) {
	triangles(func(p, colour int64, a, b, c impl.Point) {
		quadrea, code := impl.QuadreaOf(p, colour, a, b, c)
		area := areaIn(p, a, b, c)
		want := mod(p, -4*area*area)
		if colour == 0 {
			want = mod(p, 4*area*area)
		}
		if quadrea != want || quadrea == 0 || code != impl.ErrNone {
			t.Errorf("QuadreaOf(%d, %d, %v, %v, %v) = %d, %d, want %d", p, colour, a, b, c, quadrea, code, want)
		}
		ab, bc, ca := quadrancesOfThree(t, p, colour, a, b, c)
		if n, code := impl.ArchimedesOf(p, ab, bc, ca); n != quadrea || code != impl.ErrNone {
			t.Errorf("QuadreaOf(%d, %d, %v, %v, %v) = %d, but ArchimedesOf is %d, %d", p, colour, a, b, c, quadrea, n, code)
		}
	})
}

// middleIn looks for the point that is as far from a as b is from it.
func middleIn(p int64, a, b impl.Point) impl.Point {
	for _, m := range everyPoint(p) {
		if minus(p, m, a) == minus(p, b, m) {
			return m
		}
	}
	return impl.Point{-1, -1}
}

func TestMedians(t *testing.T) {
	triangles(func(p, colour int64, a, b, c impl.Point) {
		if colour != 0 {
			return
		}
		for _, at := range turnsOf(a, b, c) {
			median, code := impl.MedianOf(p, at[0], at[1], at[2])
			middle, midCode := impl.MidpointOf(p, at[1], at[2])
			if middle != middleIn(p, at[1], at[2]) || midCode != impl.ErrNone {
				t.Errorf("MidpointOf(%d, %v, %v) = %v, %d", p, at[1], at[2], middle, midCode)
			}
			if code != impl.ErrNone || !isLine(p, median) || !on(p, at[0], median) || !on(p, middle, median) || middle == at[0] {
				t.Errorf("MedianOf(%d, %v) = %v, %d", p, at, median, code)
			}
			if other, code := impl.MedianOf(p, at[0], at[2], at[1]); other != median || code != impl.ErrNone {
				t.Errorf("MedianOf(%d, %v) = %v, but with the others exchanged %v, %d", p, at, median, other, code)
			}
		}
	})
}

// Where the midpoint of two points is the third one there is no line through the two, and the points
// are no triangle; for 3 this is so for all three midpoints of a line.
func TestMediansWhereAMidpointIsAPoint(t *testing.T) {
	for _, p := range fields {
		for _, b := range scattered(p, 12) {
			for _, c := range scattered(p, 12) {
				a := middleIn(p, b, c)
				for _, three := range [][]any{{a, b, c}, {a, c, b}, {b, c, a}, {c, a, b}} {
					wantCode(t, sampleOf("MedianOf", impl.MedianOf), p, three, impl.ErrState)
					wantCode(t, sampleOf("CentroidOf", impl.CentroidOf), p, three, impl.ErrState)
				}
			}
		}
	}
}

func TestCentroids(t *testing.T) {
	triangles(func(p, colour int64, a, b, c impl.Point) {
		if colour != 0 || p == 3 {
			return
		}
		g, code := impl.CentroidOf(p, a, b, c)
		if code != impl.ErrNone || !slices.Contains(everyPoint(p), g) || mod(p, 3*g[0]-a[0]-b[0]-c[0]) != 0 || mod(p, 3*g[1]-a[1]-b[1]-c[1]) != 0 {
			t.Errorf("CentroidOf(%d, %v, %v, %v) = %v, %d", p, a, b, c, g, code)
		}
		var medians []impl.Line
		for _, at := range turnsOf(a, b, c) {
			median, code := impl.MedianOf(p, at[0], at[1], at[2])
			if has, onCode := impl.IsOnLine(p, g, median); !has || code != impl.ErrNone || onCode != impl.ErrNone {
				t.Errorf("the centroid %v of %v, %v, %v for %d is not on the median %v", g, a, b, c, p, median)
			}
			medians = append(medians, median)
		}
		for i := range medians {
			if meet, code := impl.MeetOf(p, medians[i], medians[(i+1)%3]); meet != g || code != impl.ErrNone {
				t.Errorf("medians of %v, %v, %v for %d meet in %v, %d, not in the centroid %v", a, b, c, p, meet, code, g)
			}
		}
	})
}

// For 3 the medians of a triangle are parallel, and do not meet.
func TestNoCentroidsForThree(t *testing.T) {
	triangles(func(p, colour int64, a, b, c impl.Point) {
		if p != 3 {
			return
		}
		wantCode(t, sampleOf("CentroidOf", impl.CentroidOf), p, []any{a, b, c}, impl.ErrState)
		first, _ := impl.MedianOf(p, a, b, c)
		for _, at := range turnsOf(a, b, c)[1:] {
			other, _ := impl.MedianOf(p, at[0], at[1], at[2])
			if yes, code := impl.AreParallel(p, first, other); !yes || first == other || code != impl.ErrNone {
				t.Errorf("medians %v and %v of %v, %v, %v for 3", first, other, a, b, c)
			}
		}
	})
}

// sideIn looks for the line on which two points are.
func sideIn(p int64, a, b impl.Point) impl.Line {
	d := minus(p, b, a)
	for k := range p {
		l := impl.Line{mod(p, k*d[1]), mod(p, -k*d[0])}
		if l[0] == 1 || l[0] == 0 && l[1] == 1 {
			return impl.Line{l[0], l[1], mod(p, -l[0]*a[0]-l[1]*a[1])}
		}
	}
	return impl.Line{}
}

func TestAltitudes(t *testing.T) {
	null := map[[2]int64]int{}
	triangles(func(p, colour int64, a, b, c impl.Point) {
		for _, at := range turnsOf(a, b, c) {
			side := sideIn(p, at[1], at[2])
			altitude, code := impl.AltitudeOf(p, colour, at[0], at[1], at[2])
			if code != impl.ErrNone || !on(p, at[0], altitude) || productIn(p, colour, turned(p, altitude), turned(p, side)) != 0 {
				t.Errorf("AltitudeOf(%d, %d, %v) = %v, %d", p, colour, at, altitude, code)
			}
			if want, code := impl.PerpendicularThrough(p, colour, side, at[0]); altitude != want || code != impl.ErrNone {
				t.Errorf("AltitudeOf(%d, %d, %v) = %v, but PerpendicularThrough is %v, %d", p, colour, at, altitude, want, code)
			}
			if parallel := altitude[0] == side[0] && altitude[1] == side[1]; parallel != isNull(p, colour, side) {
				t.Errorf("AltitudeOf(%d, %d, %v) = %v: parallel to the side %v is %v", p, colour, at, altitude, side, parallel)
			}
			if isNull(p, colour, side) {
				null[[2]int64{p, colour}]++
			}
		}
	})
	inColours(func(p, c int64) {
		if hasNullLines(p, c) != (null[[2]int64{p, c}] > 20) {
			t.Errorf("altitudes to %d null sides for %d in %d", null[[2]int64{p, c}], p, c)
		}
	})
}

func TestOrthocentres(t *testing.T) {
	triangles(func(p, colour int64, a, b, c impl.Point) {
		var altitudes []impl.Line
		for _, at := range turnsOf(a, b, c) {
			altitude, code := impl.AltitudeOf(p, colour, at[0], at[1], at[2])
			if code != impl.ErrNone {
				t.Errorf("AltitudeOf(%d, %d, %v): code %d", p, colour, at, code)
			}
			altitudes = append(altitudes, altitude)
		}
		h, code := impl.OrthocentreOf(p, colour, a, b, c)
		if code != impl.ErrNone {
			t.Errorf("OrthocentreOf(%d, %d, %v, %v, %v): code %d", p, colour, a, b, c, code)
		}
		for i, l := range altitudes {
			if has, code := impl.IsOnLine(p, h, l); !has || code != impl.ErrNone {
				t.Errorf("OrthocentreOf(%d, %d, %v, %v, %v) = %v is not on the altitude %v", p, colour, a, b, c, h, l)
			}
			if meet, code := impl.MeetOf(p, l, altitudes[(i+1)%3]); meet != h || code != impl.ErrNone {
				t.Errorf("altitudes of %v, %v, %v for %d in %d meet in %v, %d, not in %v", a, b, c, p, colour, meet, code, h)
			}
		}
	})
}

// The orthocentre is also the only point from which the ways to two points have the same product as
// to two others; where the points have a right angle, it is the point that has it.
func TestOrthocentresByProducts(t *testing.T) {
	triangles(func(p, colour int64, a, b, c impl.Point) {
		var found []impl.Point
		for _, h := range everyPoint(p) {
			ab := productIn(p, colour, minus(p, a, h), minus(p, b, h))
			bc := productIn(p, colour, minus(p, b, h), minus(p, c, h))
			if ab == bc && bc == productIn(p, colour, minus(p, c, h), minus(p, a, h)) {
				found = append(found, h)
			}
		}
		if h, _ := impl.OrthocentreOf(p, colour, a, b, c); len(found) != 1 || h != found[0] {
			t.Errorf("OrthocentreOf(%d, %d, %v, %v, %v) = %v, want %v", p, colour, a, b, c, h, found)
		}
		for _, at := range turnsOf(a, b, c) {
			right, code := impl.HasRightAngle(p, colour, at[0], at[1], at[2])
			if right && found[0] != at[0] || code != impl.ErrNone {
				t.Errorf("%v, %v, %v for %d in %d have a right angle at %v and the orthocentre %v", a, b, c, p, colour, at[0], found[0])
			}
		}
	})
}

func TestCircumcentres(t *testing.T) {
	triangles(func(p, colour int64, a, b, c impl.Point) {
		var found []impl.Point
		for _, o := range everyPoint(p) {
			q := quadranceIn(p, colour, o, a)
			if quadranceIn(p, colour, o, b) == q && quadranceIn(p, colour, o, c) == q {
				found = append(found, o)
			}
		}
		o, code := impl.CircumcentreOf(p, colour, a, b, c)
		if len(found) != 1 || o != found[0] || code != impl.ErrNone {
			t.Errorf("CircumcentreOf(%d, %d, %v, %v, %v) = %v, %d, want %v", p, colour, a, b, c, o, code, found)
		}
		q, code := impl.CircumquadranceOf(p, colour, a, b, c)
		if q != quadranceIn(p, colour, o, a) || code != impl.ErrNone {
			t.Errorf("CircumquadranceOf(%d, %d, %v, %v, %v) = %d, %d", p, colour, a, b, c, q, code)
		}
		for _, corner := range []impl.Point{a, b, c} {
			if n, code := impl.Quadrance(p, colour, o, corner); n != q || code != impl.ErrNone {
				t.Errorf("%v for %d in %d has the quadrance %d, %d with %v, not %d", o, p, colour, n, code, corner, q)
			}
		}
	})
}

// hasEulerLine tells without the two points whether they differ: they are the same just where all
// three quadrances are. For 3 no triangle has equal quadrances.
func hasEulerLine(p, colour int64, a, b, c impl.Point) bool {
	ab := quadranceIn(p, colour, a, b)
	return quadranceIn(p, colour, b, c) != ab || quadranceIn(p, colour, c, a) != ab
}

func checkEulerLine(t *testing.T, p, colour int64, a, b, c impl.Point) {
	t.Helper()
	h, hCode := impl.OrthocentreOf(p, colour, a, b, c)
	o, oCode := impl.CircumcentreOf(p, colour, a, b, c)
	if hCode != impl.ErrNone || oCode != impl.ErrNone || hasEulerLine(p, colour, a, b, c) != (h != o) {
		t.Errorf("%v, %v, %v for %d in %d: orthocentre %v, %d, circumcentre %v, %d", a, b, c, p, colour, h, hCode, o, oCode)
	}
	if h == o {
		wantCode(t, sampleOf("EulerLineOf", impl.EulerLineOf), p, []any{colour, a, b, c}, impl.ErrState)
		return
	}
	l, code := impl.EulerLineOf(p, colour, a, b, c)
	if code != impl.ErrNone || l != sideIn(p, h, o) || !on(p, h, l) || !on(p, o, l) {
		t.Errorf("EulerLineOf(%d, %d, %v, %v, %v) = %v, %d, not through %v and %v", p, colour, a, b, c, l, code, h, o)
	}
	if p == 3 {
		return
	}
	g, gCode := impl.CentroidOf(p, a, b, c)
	if has, code := impl.IsOnLine(p, g, l); !has || code != impl.ErrNone || gCode != impl.ErrNone {
		t.Errorf("EulerLineOf(%d, %d, %v, %v, %v) = %v does not have the centroid %v", p, colour, a, b, c, l, g)
	}
}

func TestEulerLines(t *testing.T) {
	triangles(func(p, colour int64, a, b, c impl.Point) { checkEulerLine(t, p, colour, a, b, c) })
}

// Few triangles have equal quadrances: for a and b there are two or no points c with which they have
// them. There are some in blue where 3 is a square, and in red and green where -3 is one.
func TestNoEulerLines(t *testing.T) {
	inColours(func(p, colour int64) {
		n := int64(3)
		if colour != 0 {
			n = -3
		}
		some := p != 3 && leastRoot(p, mod(p, n)) >= 0
		count := 0
		a := impl.Point{1, 2}
		for _, b := range scattered(p, 6) {
			for _, c := range everyPoint(p) {
				if isTriangle(p, a, b, c) && !hasEulerLine(p, colour, a, b, c) {
					count++
					checkEulerLine(t, p, colour, a, b, c)
				}
			}
		}
		if some != (count > 0) {
			t.Errorf("%d triangles without a line of Euler for %d in %d", count, p, colour)
		}
	})
}

func TestOrthicPoints(t *testing.T) {
	codes := map[[3]int64]int{}
	triangles(func(p, colour int64, a, b, c impl.Point) {
		want := int64(impl.ErrNone)
		for _, at := range turnsOf(a, b, c) {
			if isNull(p, colour, sideIn(p, at[1], at[2])) {
				want = impl.ErrState
			}
		}
		list, code := impl.OrthicPoints(p, colour, a, b, c)
		codes[[3]int64{p, colour, code}]++
		if code != want || code == impl.ErrNone && len(list) != 3 || code != impl.ErrNone && len(list) != 0 {
			t.Errorf("OrthicPoints(%d, %d, %v, %v, %v) = %v, %d, want code %d", p, colour, a, b, c, list, code, want)
			return
		}
		for i, foot := range list {
			at := turnsOf(a, b, c)[i]
			side := sideIn(p, at[1], at[2])
			if !on(p, foot, side) || productIn(p, colour, minus(p, at[0], foot), turned(p, side)) != 0 {
				t.Errorf("OrthicPoints(%d, %d, %v, %v, %v) = %v: %v is no foot on %v", p, colour, a, b, c, list, foot, side)
			}
			if f, code := impl.FootOf(p, colour, at[0], side); f != foot || code != impl.ErrNone {
				t.Errorf("OrthicPoints(%d, %d, %v, %v, %v) = %v, but FootOf is %v, %d for %d", p, colour, a, b, c, list, f, code, i)
			}
		}
	})
	inColours(func(p, c int64) {
		// For 3 the sides of a triangle have three of the four slopes, two of which are null in red and green.
		none, null := codes[[3]int64{p, c, impl.ErrNone}], codes[[3]int64{p, c, impl.ErrState}]
		if (p == 3 && c != 0) != (none == 0) || hasNullLines(p, c) != (null > 0) {
			t.Errorf("%d triangles without null sides and %d others for %d in %d", none, null, p, c)
		}
	})
}

// A null side may be any one of the three, beside others that are not null.
func TestOrthicPointsOfOneNullSide(t *testing.T) {
	inColours(func(p, in int64) {
		for _, l := range nullAmong(p, in, twoOfEachSlope(p)) {
			row := pointsOfLine(p, l)
			for _, c := range scattered(p, 9) {
				for _, at := range turnsOf(row[0], row[1], c) {
					args := []any{colour(in), at[0], at[1], at[2]}
					wantCode(t, sampleOf("OrthicPoints", impl.OrthicPoints), p, args, impl.ErrState)
				}
			}
		}
	})
}

// madeBy is the sum of three points, each one times a number.
func madeBy(p int64, weights []int64, a, b, c impl.Point) impl.Point {
	u, v, w := weights[0], weights[1], weights[2]
	return impl.Point{mod(p, u*a[0]+v*b[0]+w*c[0]), mod(p, u*a[1]+v*b[1]+w*c[1])}
}

func checkWeights(t *testing.T, p int64, a, b, c, d impl.Point) {
	t.Helper()
	weights, code := impl.WeightsOf(p, a, b, c, d)
	if code != impl.ErrNone || len(weights) != 3 {
		t.Errorf("WeightsOf(%d, %v, %v, %v, %v) = %v, %d", p, a, b, c, d, weights, code)
		return
	}
	for i, n := range weights {
		at := turnsOf(a, b, c)[i]
		onSide := on(p, d, sideIn(p, at[1], at[2]))
		if n < 0 || n >= p || (n == 0) != onSide {
			t.Errorf("WeightsOf(%d, %v, %v, %v, %v) = %v: weight %d", p, a, b, c, d, weights, i)
		}
	}
	if mod(p, weights[0]+weights[1]+weights[2]) != 1 || madeBy(p, weights, a, b, c) != d {
		t.Errorf("WeightsOf(%d, %v, %v, %v, %v) = %v", p, a, b, c, d, weights)
	}
}

func TestWeights(t *testing.T) {
	triangles(func(p, colour int64, a, b, c impl.Point) {
		if colour != 0 {
			return
		}
		for _, d := range append(scattered(p, 12), middleIn(p, a, b), middleIn(p, b, c), middleIn(p, c, a)) {
			checkWeights(t, p, a, b, c, d)
		}
		for i, d := range []impl.Point{a, b, c} {
			want := []int64{0, 0, 0}
			want[i] = 1
			if weights, code := impl.WeightsOf(p, a, b, c, d); !slices.Equal(weights, want) || code != impl.ErrNone {
				t.Errorf("WeightsOf(%d, %v, %v, %v, %v) = %v, %d, want %v", p, a, b, c, d, weights, code, want)
			}
		}
	})
}

func TestWeightsOfCentroids(t *testing.T) {
	triangles(func(p, colour int64, a, b, c impl.Point) {
		if colour != 0 || p == 3 {
			return
		}
		g, _ := impl.CentroidOf(p, a, b, c)
		third := quotientIn(p, 1, 3)
		if weights, code := impl.WeightsOf(p, a, b, c, g); !slices.Equal(weights, []int64{third, third, third}) || code != impl.ErrNone {
			t.Errorf("WeightsOf(%d, %v, %v, %v, %v) = %v, %d for the centroid", p, a, b, c, g, weights, code)
		}
	})
}

// All weights of a triangle make all points, each one once.
func TestWeightsAreTheOnlyOnes(t *testing.T) {
	for _, p := range fields {
		a, b, c := impl.Point{1, 0}, impl.Point{2, 1}, impl.Point{0, 1}
		made := map[impl.Point][]int64{}
		for u := range p {
			for v := range p {
				weights := []int64{u, v, mod(p, 1-u-v)}
				made[madeBy(p, weights, a, b, c)] = weights
			}
		}
		for _, d := range everyPoint(p) {
			if weights, code := impl.WeightsOf(p, a, b, c, d); !slices.Equal(weights, made[d]) || code != impl.ErrNone {
				t.Errorf("WeightsOf(%d, %v, %v, %v, %v) = %v, %d, want %v", p, a, b, c, d, weights, code, made[d])
			}
		}
	}
}

// partsOf has what belongs to a triangle as a whole.
type partsOf struct {
	quadrea, quadrance                  int64
	centroid, orthocentre, circumcentre impl.Point
	euler                               impl.Line
}

func partsIn(p, colour int64, three [3]impl.Point) (w partsOf) {
	a, b, c := three[0], three[1], three[2]
	w.quadrea, _ = impl.QuadreaOf(p, colour, a, b, c)
	w.quadrance, _ = impl.CircumquadranceOf(p, colour, a, b, c)
	w.centroid, _ = impl.CentroidOf(p, a, b, c)
	w.orthocentre, _ = impl.OrthocentreOf(p, colour, a, b, c)
	w.circumcentre, _ = impl.CircumcentreOf(p, colour, a, b, c)
	w.euler, _ = impl.EulerLineOf(p, colour, a, b, c)
	return w
}

func TestTrianglesInAnyOrder(t *testing.T) {
	inColours(func(p, colour int64) {
		some := scattered(p, 5)
		for _, a := range some {
			for _, b := range some {
				for _, c := range some {
					want := partsIn(p, colour, [3]impl.Point{a, b, c})
					for _, at := range append(turnsOf(a, b, c)[1:], turnsOf(c, b, a)...) {
						if got := partsIn(p, colour, at); got != want {
							t.Errorf("%v for %d in %d has %v, but in another order %v", at, p, colour, got, want)
						}
					}
				}
			}
		}
	})
}

func TestTriangleListsAreNew(t *testing.T) {
	a, b, c, d := impl.Point{0, 0}, impl.Point{1, 1}, impl.Point{2, 3}, impl.Point{1, 2}
	wantFeet, wantWeights := []impl.Point{{3, 5}, {10, 4}, {8, 8}}, []int64{1, 10, 1}
	feet, _ := impl.OrthicPoints(11, 2, a, b, c)
	weights, _ := impl.WeightsOf(11, a, b, c, d)
	for range 2 {
		otherFeet, _ := impl.OrthicPoints(11, 2, a, b, c)
		otherWeights, _ := impl.WeightsOf(11, a, b, c, d)
		if !slices.Equal(otherFeet, wantFeet) || !slices.Equal(otherWeights, wantWeights) {
			t.Errorf("OrthicPoints = %v, WeightsOf = %v", otherFeet, otherWeights)
		}
		clear(otherFeet[:cap(otherFeet)])
		clear(otherWeights[:cap(otherWeights)])
	}
	if !slices.Equal(feet, wantFeet) || !slices.Equal(weights, wantWeights) {
		t.Errorf("two results share memory: %v, %v", feet, weights)
	}
}

func TestLayer4Examples(t *testing.T) {
	if h, code := impl.OrthocentreOf(7, 0, impl.Point{0, 0}, impl.Point{1, 0}, impl.Point{0, 2}); h != (impl.Point{0, 0}) || code != impl.ErrNone {
		t.Errorf("OrthocentreOf = %v, %d", h, code)
	}
	a, b, c := impl.Point{0, 0}, impl.Point{1, 1}, impl.Point{2, 3}
	quadrea, code1 := impl.QuadreaOf(11, 2, a, b, c)
	quadrance, code2 := impl.CircumquadranceOf(11, 2, a, b, c)
	if quadrea != 7 || code1 != impl.ErrNone || quadrance != 9 || code2 != impl.ErrNone {
		t.Errorf("QuadreaOf = %d, %d, CircumquadranceOf = %d, %d", quadrea, code1, quadrance, code2)
	}
	median, code1 := impl.MedianOf(11, a, b, c)
	altitude, code2 := impl.AltitudeOf(11, 2, a, b, c)
	euler, code3 := impl.EulerLineOf(11, 2, a, b, c)
	if median != (impl.Line{1, 2, 0}) || code1 != impl.ErrNone || altitude != (impl.Line{1, 6, 0}) || code2 != impl.ErrNone || euler != (impl.Line{1, 10, 4}) || code3 != impl.ErrNone {
		t.Errorf("MedianOf = %v, %d, AltitudeOf = %v, %d, EulerLineOf = %v, %d", median, code1, altitude, code2, euler, code3)
	}
	g, code1 := impl.CentroidOf(11, a, b, c)
	h, code2 := impl.OrthocentreOf(11, 2, a, b, c)
	o, code3 := impl.CircumcentreOf(11, 2, a, b, c)
	if g != (impl.Point{1, 5}) || code1 != impl.ErrNone || h != (impl.Point{6, 10}) || code2 != impl.ErrNone || o != (impl.Point{4, 8}) || code3 != impl.ErrNone {
		t.Errorf("CentroidOf = %v, %d, OrthocentreOf = %v, %d, CircumcentreOf = %v, %d", g, code1, h, code2, o, code3)
	}
}
