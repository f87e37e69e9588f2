package tests

import (
	"slices"
	"testing"

	"loop.example/g01370/impl"
)

func mod(p, n int64) int64 {
	return (n%p + p) % p
}

// productIn says anew what the product of two points is.
func productIn(p, colour int64, a, b impl.Point) int64 {
	switch colour {
	case 0:
		return mod(p, a[0]*b[0]+a[1]*b[1])
	case 1:
		return mod(p, a[0]*b[0]-a[1]*b[1])
	default:
		return mod(p, a[0]*b[1]+b[0]*a[1])
	}
}

func minus(p int64, a, b impl.Point) impl.Point {
	return impl.Point{mod(p, a[0]-b[0]), mod(p, a[1]-b[1])}
}

func quadranceIn(p, colour int64, a, b impl.Point) int64 {
	d := minus(p, a, b)
	return productIn(p, colour, d, d)
}

func pointsOfLine(p int64, l impl.Line) []impl.Point {
	row := make([]impl.Point, 0, p)
	for n := range p * p {
		if a := (impl.Point{n / p, n % p}); on(p, a, l) {
			row = append(row, a)
		}
	}
	return row
}

// alongLine leads from one point of a line to another one, and is its direction times some number.
func alongLine(p int64, l impl.Line) impl.Point {
	row := pointsOfLine(p, l)
	return minus(p, row[1], row[0])
}

func perpendicularIn(p, colour int64, l, m impl.Line) bool {
	return productIn(p, colour, alongLine(p, l), alongLine(p, m)) == 0
}

// hasNullLines: in blue there are null lines if -1 is a square.
func hasNullLines(p, colour int64) bool {
	return colour != 0 || p%4 == 1
}

func inColours(check func(p, colour int64)) {
	for _, p := range fields {
		for _, c := range colours {
			check(p, c)
		}
	}
}

// quadranceSamples has each function of the layer, also with null lines, for which FootOf returns
// an error of its own: Line{1, 1, 0} is null in red, and Line{0, 1, 1} in green.
func quadranceSamples() []sample {
	o, a, b := impl.Point{0, 0}, impl.Point{1, 2}, impl.Point{2, 2}
	l, m := impl.Line{1, 1, 0}, impl.Line{0, 1, 1}
	list := []sample{
		sampleOf("ArchimedesOf", impl.ArchimedesOf, 1, 1, 1), sampleOf("ArchimedesOf", impl.ArchimedesOf, 0, 1, 2),
	}
	for _, c := range []colour{0, 1, 2} {
		list = append(list,
			sampleOf("ProductOf", impl.ProductOf, c, a, b), sampleOf("ProductOf", impl.ProductOf, c, a, a),
			sampleOf("Quadrance", impl.Quadrance, c, a, b), sampleOf("Quadrance", impl.Quadrance, c, a, a),
			sampleOf("ArePerpendicular", impl.ArePerpendicular, c, l, m), sampleOf("ArePerpendicular", impl.ArePerpendicular, c, l, l),
			sampleOf("PerpendicularThrough", impl.PerpendicularThrough, c, l, b), sampleOf("PerpendicularThrough", impl.PerpendicularThrough, c, m, o),
			sampleOf("IsNullLine", impl.IsNullLine, c, l), sampleOf("IsNullLine", impl.IsNullLine, c, m),
			sampleOf("NullLines", impl.NullLines, c, a),
			sampleOf("FootOf", impl.FootOf, c, a, l), sampleOf("FootOf", impl.FootOf, c, a, m), sampleOf("FootOf", impl.FootOf, c, o, l),
			sampleOf("HasRightAngle", impl.HasRightAngle, c, o, a, b), sampleOf("HasRightAngle", impl.HasRightAngle, c, a, a, a),
			sampleOf("PointsAt", impl.PointsAt, c, a, 1), sampleOf("PointsAt", impl.PointsAt, c, a, 0),
			sampleOf("CountAt", impl.CountAt, c, 1), sampleOf("CountAt", impl.CountAt, c, 0),
		)
	}
	return list
}

func TestQuadrancesInvalidFirst(t *testing.T) { checkInvalidFirst(t, quadranceSamples()) }

func TestQuadrancesRangeSecond(t *testing.T) { checkRangeSecond(t, quadranceSamples()) }

func TestProducts(t *testing.T) {
	inColours(func(p, c int64) {
		for _, a := range thinned(everyPoint(p), 130) {
			for _, b := range thinned(everyPoint(p), 125) {
				if n, code := impl.ProductOf(p, c, a, b); n != productIn(p, c, a, b) || code != impl.ErrNone {
					t.Errorf("ProductOf(%d, %d, %v, %v) = %d, %d", p, c, a, b, n, code)
				}
			}
		}
	})
}

func TestQuadrances(t *testing.T) {
	inColours(func(p, c int64) {
		for _, a := range thinned(everyPoint(p), 130) {
			for _, b := range append(thinned(everyPoint(p), 125), a) {
				q, code := impl.Quadrance(p, c, a, b)
				if q != quadranceIn(p, c, a, b) || code != impl.ErrNone || a == b && q != 0 {
					t.Errorf("Quadrance(%d, %d, %v, %v) = %d, %d", p, c, a, b, q, code)
				}
				if back, code := impl.Quadrance(p, c, b, a); back != q || code != impl.ErrNone {
					t.Errorf("Quadrance(%d, %d, %v, %v) = %d, %d, but %d the other way", p, c, b, a, back, code, q)
				}
			}
		}
	})
}

func TestPerpendicularLines(t *testing.T) {
	inColours(func(p, c int64) {
		list := thinned(everyLine(p), 60)
		for _, l := range list {
			for _, m := range append(thinned(everyLine(p), 57), l) {
				if yes, code := impl.ArePerpendicular(p, c, l, m); yes != perpendicularIn(p, c, l, m) || code != impl.ErrNone {
					t.Errorf("ArePerpendicular(%d, %d, %v, %v) = %v, %d", p, c, l, m, yes, code)
				}
			}
		}
	})
}

// checkPerpendicularsThrough expects the one of all lines through a point that is perpendicular to
// l, which for a null line is the parallel one.
func checkPerpendicularsThrough(t *testing.T, p, c int64, l impl.Line, a impl.Point) {
	t.Helper()
	m, code := impl.PerpendicularThrough(p, c, l, a)
	if code != impl.ErrNone || !isLine(p, m) || !on(p, a, m) || !perpendicularIn(p, c, l, m) {
		t.Errorf("PerpendicularThrough(%d, %d, %v, %v) = %v, %d", p, c, l, a, m, code)
	}
	if yes, code := impl.ArePerpendicular(p, c, l, m); !yes || code != impl.ErrNone {
		t.Errorf("%v is not perpendicular to %v in %d for %d", m, l, c, p)
	}
	if parallel := m[0] == l[0] && m[1] == l[1]; parallel != perpendicularIn(p, c, l, l) {
		t.Errorf("PerpendicularThrough(%d, %d, %v, %v) = %v: parallel is %v", p, c, l, a, m, parallel)
	}
}

// nullAmong keeps the null lines of a list, of which an even selection has few.
func nullAmong(p, c int64, list []impl.Line) []impl.Line {
	var kept []impl.Line
	for _, l := range list {
		if perpendicularIn(p, c, l, l) {
			kept = append(kept, l)
		}
	}
	return kept
}

func TestPerpendicularThrough(t *testing.T) {
	inColours(func(p, c int64) {
		for _, l := range append(thinned(everyLine(p), 30), nullAmong(p, c, everyLine(p))...) {
			for _, a := range thinned(everyPoint(p), 27) {
				checkPerpendicularsThrough(t, p, c, l, a)
			}
		}
	})
}

func TestOnlyOnePerpendicular(t *testing.T) {
	for _, p := range []int64{3, 5, 7} {
		for _, c := range colours {
			for _, l := range everyLine(p) {
				for _, a := range everyPoint(p) {
					want := slices.DeleteFunc(everyLine(p), func(m impl.Line) bool { return !on(p, a, m) || !perpendicularIn(p, c, l, m) })
					if m, code := impl.PerpendicularThrough(p, c, l, a); len(want) != 1 || m != want[0] || code != impl.ErrNone {
						t.Errorf("PerpendicularThrough(%d, %d, %v, %v) = %v, %d, want %v", p, c, l, a, m, code, want)
					}
				}
			}
		}
	}
}

func TestIsNullLine(t *testing.T) {
	inColours(func(p, c int64) {
		count := int64(0)
		for _, l := range everyLine(p) {
			null, code := impl.IsNullLine(p, c, l)
			if null != perpendicularIn(p, c, l, l) || code != impl.ErrNone {
				t.Errorf("IsNullLine(%d, %d, %v) = %v, %d", p, c, l, null, code)
			}
			if null {
				count++
			}
		}
		want := int64(0)
		if hasNullLines(p, c) {
			want = 2 * p
		}
		if count != want {
			t.Errorf("%d null lines in %d for %d, want %d", count, c, p, want)
		}
	})
}

func TestNullLines(t *testing.T) {
	inColours(func(p, c int64) {
		null := nullAmong(p, c, everyLine(p))
		count := 0
		if hasNullLines(p, c) {
			count = 2
		}
		for _, a := range thinned(everyPoint(p), 130) {
			var want []impl.Line
			for _, l := range null {
				if on(p, a, l) {
					want = append(want, l)
				}
			}
			list, code := impl.NullLines(p, c, a)
			if !slices.Equal(list, want) || len(list) != count || code != impl.ErrNone {
				t.Errorf("NullLines(%d, %d, %v) = %v, %d, want %v", p, c, a, list, code, want)
			}
		}
	})
}

// checkFoot expects the one point of the line from which the way to a is perpendicular to the line.
func checkFoot(t *testing.T, p, c int64, a impl.Point, l impl.Line) {
	t.Helper()
	along := alongLine(p, l)
	var feet []impl.Point
	for _, b := range pointsOfLine(p, l) {
		if productIn(p, c, minus(p, a, b), along) == 0 {
			feet = append(feet, b)
		}
	}
	want, wantCode := impl.Point{}, int64(impl.ErrState)
	if productIn(p, c, along, along) != 0 {
		want, wantCode = feet[0], impl.ErrNone
	}
	foot, code := impl.FootOf(p, c, a, l)
	if foot != want || code != wantCode {
		t.Errorf("FootOf(%d, %d, %v, %v) = %v, %d, want %v, %d", p, c, a, l, foot, code, want, wantCode)
	}
	if code != impl.ErrNone {
		return
	}
	if yes, code := impl.IsOnLine(p, foot, l); !yes || code != impl.ErrNone {
		t.Errorf("FootOf(%d, %d, %v, %v) = %v is not on the line", p, c, a, l, foot)
	}
	if on(p, a, l) != (foot == a) {
		t.Errorf("FootOf(%d, %d, %v, %v) = %v", p, c, a, l, foot)
	}
	if foot != a {
		checkLineThroughFoot(t, p, c, a, foot, l)
	}
}

func checkLineThroughFoot(t *testing.T, p, c int64, a, foot impl.Point, l impl.Line) {
	t.Helper()
	m, code := impl.LineThrough(p, a, foot)
	if code != impl.ErrNone {
		t.Errorf("LineThrough(%d, %v, %v): code %d", p, a, foot, code)
	}
	if yes, code := impl.ArePerpendicular(p, c, l, m); !yes || code != impl.ErrNone {
		t.Errorf("FootOf(%d, %d, %v, %v) = %v: the line to it is not perpendicular", p, c, a, l, foot)
	}
	if n, code := impl.PerpendicularThrough(p, c, l, a); n != m || code != impl.ErrNone {
		t.Errorf("PerpendicularThrough(%d, %d, %v, %v) = %v, %d, not through the foot %v", p, c, l, a, n, code, foot)
	}
}

func TestFeet(t *testing.T) {
	inColours(func(p, c int64) {
		for _, l := range append(thinned(everyLine(p), 30), nullAmong(p, c, everyLine(p))...) {
			for _, a := range append(thinned(everyPoint(p), 27), pointsOfLine(p, l)...) {
				checkFoot(t, p, c, a, l)
			}
		}
	})
}

// The number of Archimedes is written the other way here: 4 a b less the square of a + b - c.
func TestArchimedes(t *testing.T) {
	for _, p := range fields {
		for _, n := range everyNumbers(p) {
			a, b, c := n[0], n[1], n[2]
			want := mod(p, 4*a*b-(a+b-c)*(a+b-c))
			if got, code := impl.ArchimedesOf(p, a, b, c); got != want || code != impl.ErrNone {
				t.Errorf("ArchimedesOf(%d, %d, %d, %d) = %d, %d, want %d", p, a, b, c, got, code, want)
			}
		}
	}
}

func quadrancesOfThree(t *testing.T, p, colour int64, a, b, c impl.Point) (ab, bc, ca int64) {
	t.Helper()
	ab, code1 := impl.Quadrance(p, colour, a, b)
	bc, code2 := impl.Quadrance(p, colour, b, c)
	ca, code3 := impl.Quadrance(p, colour, c, a)
	if code1 != impl.ErrNone || code2 != impl.ErrNone || code3 != impl.ErrNone {
		t.Errorf("quadrances of %v, %v, %v for %d in %d: codes %d, %d, %d", a, b, c, p, colour, code1, code2, code3)
	}
	return ab, bc, ca
}

func TestArchimedesToldByArea(t *testing.T) {
	triples(func(p int64, a, b, c impl.Point) {
		area, code := impl.DoubledArea(p, a, b, c)
		if code != impl.ErrNone {
			t.Errorf("DoubledArea(%d, %v, %v, %v): code %d", p, a, b, c, code)
		}
		for _, colour := range colours {
			want := mod(p, -4*area*area)
			if colour == 0 {
				want = mod(p, 4*area*area)
			}
			ab, bc, ca := quadrancesOfThree(t, p, colour, a, b, c)
			if n, code := impl.ArchimedesOf(p, ab, bc, ca); n != want || code != impl.ErrNone {
				t.Errorf("ArchimedesOf(%d, %d, %d, %d) = %d, %d for %v, %v, %v in %d, want %d", p, ab, bc, ca, n, code, a, b, c, colour, want)
			}
		}
	})
}

func checkRightAngle(t *testing.T, p, colour int64, a, b, c impl.Point) {
	t.Helper()
	want := productIn(p, colour, minus(p, b, a), minus(p, c, a)) == 0
	right, code := impl.HasRightAngle(p, colour, a, b, c)
	if right != want || code != impl.ErrNone {
		t.Errorf("HasRightAngle(%d, %d, %v, %v, %v) = %v, %d", p, colour, a, b, c, right, code)
	}
	ab, bc, ca := quadrancesOfThree(t, p, colour, a, b, c)
	if addUp := mod(p, ab+ca) == bc; right != addUp {
		t.Errorf("HasRightAngle(%d, %d, %v, %v, %v) = %v, quadrances %d, %d, %d", p, colour, a, b, c, right, ab, ca, bc)
	}
}

func TestRightAngles(t *testing.T) {
	triples(func(p int64, a, b, c impl.Point) {
		for _, colour := range colours {
			checkRightAngle(t, p, colour, a, b, c)
		}
	})
}

// Of points chosen evenly few have right angles; a point, another one, and a third one on the
// perpendicular line have one.
func TestRightAnglesOfPerpendiculars(t *testing.T) {
	inColours(func(p, c int64) {
		for _, l := range append(thinned(everyLine(p), 12), nullAmong(p, c, everyLine(p))...) {
			row := pointsOfLine(p, l)
			m, _ := impl.PerpendicularThrough(p, c, l, row[1])
			for _, b := range row {
				for _, d := range thinned(pointsOfLine(p, m), 7) {
					if right, code := impl.HasRightAngle(p, c, row[1], b, d); !right || code != impl.ErrNone {
						t.Errorf("HasRightAngle(%d, %d, %v, %v, %v) = %v, %d", p, c, row[1], b, d, right, code)
					}
					checkRightAngle(t, p, c, row[1], b, d)
				}
			}
		}
	})
}

func TestRightAnglesOfEqualPoints(t *testing.T) {
	inColours(func(p, c int64) {
		for _, a := range thinned(everyPoint(p), 20) {
			for _, b := range thinned(everyPoint(p), 20) {
				for _, three := range [][3]impl.Point{{a, a, a}, {a, a, b}, {a, b, a}} {
					if right, code := impl.HasRightAngle(p, c, three[0], three[1], three[2]); !right || code != impl.ErrNone {
						t.Errorf("HasRightAngle(%d, %d, %v) = %v, %d", p, c, three, right, code)
					}
				}
				null := quadranceIn(p, c, a, b) == 0
				if right, code := impl.HasRightAngle(p, c, a, b, b); right != null || code != impl.ErrNone {
					t.Errorf("HasRightAngle(%d, %d, %v, %v, %v) = %v, %d", p, c, a, b, b, right, code)
				}
			}
		}
	})
}

func TestPointsAt(t *testing.T) {
	inColours(func(p, c int64) {
		for _, a := range thinned(everyPoint(p), 9) {
			want := make([][]impl.Point, p)
			for _, b := range everyPoint(p) {
				q := quadranceIn(p, c, a, b)
				want[q] = append(want[q], b)
			}
			for q := range p {
				list, code := impl.PointsAt(p, c, a, q)
				if !slices.Equal(list, want[q]) || code != impl.ErrNone {
					t.Errorf("PointsAt(%d, %d, %v, %d) = %v, %d", p, c, a, q, list, code)
				}
			}
		}
	})
}

// The numbers of points are p - 1 or p + 1, as there are null lines or not, and those at 0 make up
// the rest.
func TestCountAt(t *testing.T) {
	inColours(func(p, c int64) {
		atZero, atOthers := int64(1), p+1
		if hasNullLines(p, c) {
			atZero, atOthers = 2*p-1, p-1
		}
		sum := int64(0)
		for q := range p {
			want := atOthers
			if q == 0 {
				want = atZero
			}
			count, code := impl.CountAt(p, c, q)
			if count != want || code != impl.ErrNone {
				t.Errorf("CountAt(%d, %d, %d) = %d, %d, want %d", p, c, q, count, code, want)
			}
			sum += count
			for _, a := range thinned(everyPoint(p), 9) {
				if list, code := impl.PointsAt(p, c, a, q); int64(len(list)) != count || code != impl.ErrNone {
					t.Errorf("PointsAt(%d, %d, %v, %d) has %d points, %d, CountAt says %d", p, c, a, q, len(list), code, count)
				}
			}
		}
		if sum != p*p {
			t.Errorf("the numbers of points add up to %d for %d in %d", sum, p, c)
		}
	})
}

func TestQuadranceListsAreNew(t *testing.T) {
	a := impl.Point{1, 2}
	points, _ := impl.PointsAt(7, 1, a, 1)
	lines, _ := impl.NullLines(7, 1, a)
	keptPoints, keptLines := slices.Clone(points), slices.Clone(lines)
	for range 2 {
		otherPoints, _ := impl.PointsAt(7, 1, a, 1)
		otherLines, _ := impl.NullLines(7, 1, a)
		if !slices.Equal(otherPoints, keptPoints) || !slices.Equal(otherLines, keptLines) {
			t.Error("a result depends on what was done with another one")
		}
		clear(otherPoints[:cap(otherPoints)])
		clear(otherLines[:cap(otherLines)])
	}
	if !slices.Equal(points, keptPoints) || !slices.Equal(lines, keptLines) {
		t.Error("two results share memory")
	}
}

func TestLayer2Examples(t *testing.T) {
	o, a := impl.Point{0, 0}, impl.Point{1, 2}
	if q, code := impl.Quadrance(7, 0, o, a); q != 5 || code != impl.ErrNone {
		t.Errorf("Quadrance = %d, %d", q, code)
	}
	for c, want := range []int64{4, 2, 3} {
		if n, code := impl.ProductOf(7, int64(c), a, impl.Point{3, 4}); n != want || code != impl.ErrNone {
			t.Errorf("ProductOf in %d = %d, %d, want %d", c, n, code, want)
		}
	}
}
