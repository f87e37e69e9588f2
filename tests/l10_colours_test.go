package tests

import (
	"fmt"
	"runtime"
	"slices"
	"sync"
	"testing"

	"loop.example/g01370/impl"
)

func eachThree(list []impl.Point, check func(a, b, c impl.Point)) {
	for _, a := range list {
		for _, b := range list {
			for _, c := range list {
				check(a, b, c)
			}
		}
	}
}

// inThreePoints calls check with three points of each prime, all of them for 3 and 5, and with three
// points two of which are on a null line of some colour.
func inThreePoints(check func(p int64, a, b, c impl.Point)) {
	for _, p := range fields {
		some := scattered(p, 13)
		if p <= 5 {
			some = everyPoint(p)
		}
		eachThree(some, func(a, b, c impl.Point) { check(p, a, b, c) })
	}
	onNullLines(func(p, colour int64, a, b, c impl.Point) { check(p, a, b, c) })
}

func inTriangles(check func(p int64, a, b, c impl.Point)) {
	inThreePoints(func(p int64, a, b, c impl.Point) {
		if isTriangle(p, a, b, c) {
			check(p, a, b, c)
		}
	})
}

func callsOfTriangleInAll(three [3]impl.Point) []sample {
	a, b, c := three[0], three[1], three[2]
	return []sample{
		sampleOf("OmegaPoints", impl.OmegaPoints, a, b, c),
		sampleOf("ThreeCircumcentres", impl.ThreeCircumcentres, a, b, c),
		sampleOf("ThreeEulerLines", impl.ThreeEulerLines, a, b, c),
		sampleOf("OmegaDouble", impl.OmegaDouble, a, b, c),
	}
}

// colourSamples has each function of the layer but UnitCounts, with triangles and points that are
// none, and with lines that are null in red, in green, and in blue for 5.
func colourSamples() []sample {
	o, a, b, d := impl.Point{0, 0}, impl.Point{1, 0}, impl.Point{1, 1}, impl.Point{2, 0}
	var list []sample
	for _, three := range [][3]impl.Point{{o, a, b}, {b, o, d}, {a, o, d}, {o, a, a}, {a, a, o}, {a, o, a}, {a, a, a}} {
		list = append(list, callsOfTriangleInAll(three)...)
		list = append(list, sampleOf("RightColours", impl.RightColours, three[0], three[1], three[2]),
			sampleOf("EqualColours", impl.EqualColours, three[0], three[1], three[2]),
			sampleOf("ThreeQuadrances", impl.ThreeQuadrances, three[0], three[1]))
	}
	for _, l := range []impl.Line{{1, 1, 0}, {0, 1, 1}, {1, 0, 2}, {1, 2, 0}, {1, 2, 1}} {
		list = append(list, sampleOf("NullColours", impl.NullColours, l),
			sampleOf("ThreeFeet", impl.ThreeFeet, o, l), sampleOf("ThreeFeet", impl.ThreeFeet, b, l))
	}
	return list
}

func TestColoursInvalidFirst(t *testing.T) {
	checkInvalidFirst(t, append(colourSamples(), sampleOf("UnitCounts", impl.UnitCounts)))
}

func TestColoursRangeSecond(t *testing.T) { checkRangeSecond(t, colourSamples()) }

// checkThree expects what a function tells for each colour, in the order of the colours, or the code
// of a colour for which it tells nothing.
func checkThree[T comparable](t *testing.T, call string, list []T, code int64, told func(colour int64) (T, int64)) {
	t.Helper()
	var want []T
	wantCode := int64(impl.ErrNone)
	for _, colour := range colours {
		one, oneCode := told(colour)
		want = append(want, one)
		wantCode = max(wantCode, oneCode)
	}
	if wantCode != impl.ErrNone {
		want = nil
	}
	if !slices.Equal(list, want) || code != wantCode {
		t.Errorf("%s = %v, %d, want %v, %d", call, list, code, want, wantCode)
	}
}

func checkQuadrancesInAll(t *testing.T, p int64, a, b impl.Point) {
	t.Helper()
	list, code := impl.ThreeQuadrances(p, a, b)
	call := fmt.Sprintf("ThreeQuadrances(%d, %v, %v)", p, a, b)
	checkThree(t, call, list, code, func(colour int64) (int64, int64) { return impl.Quadrance(p, colour, a, b) })
	checkThree(t, call, list, code, func(colour int64) (int64, int64) { return quadranceIn(p, colour, a, b), impl.ErrNone })
	if len(list) == 3 && mod(p, list[0]*list[0]-list[1]*list[1]-list[2]*list[2]) != 0 {
		t.Errorf("%s = %v: the square of the first is not the sum of the other squares", call, list)
	}
}

func TestThreeQuadrances(t *testing.T) {
	for _, p := range fields {
		for _, a := range scattered(p, 20) {
			for _, b := range everyPoint(p) {
				checkQuadrancesInAll(t, p, a, b)
			}
		}
		for _, a := range everyPoint(p) {
			if list, code := impl.ThreeQuadrances(p, a, a); !slices.Equal(list, []int64{0, 0, 0}) || code != impl.ErrNone {
				t.Errorf("ThreeQuadrances(%d, %v, itself) = %v, %d", p, a, list, code)
			}
		}
	}
}

func TestNoThreeOfPointsThatAreNoTriangle(t *testing.T) {
	seen := map[int64]int{}
	inThreePoints(func(p int64, a, b, c impl.Point) {
		if isTriangle(p, a, b, c) {
			return
		}
		for _, s := range callsOfTriangleInAll([3]impl.Point{a, b, c}) {
			wantCode(t, s, p, s.args, impl.ErrState)
		}
		if a != b && b != c && a != c {
			seen[p]++
		}
	})
	for _, p := range fields {
		if seen[p] < 50 {
			t.Errorf("three different points on one line for %d: %d", p, seen[p])
		}
		for _, a := range scattered(p, 9) {
			for _, b := range scattered(p, 9) {
				for _, three := range [][3]impl.Point{{a, a, b}, {a, b, a}, {b, a, a}, {a, a, a}} {
					for _, s := range callsOfTriangleInAll(three) {
						wantCode(t, s, p, s.args, impl.ErrState)
					}
				}
			}
		}
	}
}

func TestOmegaPoints(t *testing.T) {
	inTriangles(func(p int64, a, b, c impl.Point) {
		list, code := impl.OmegaPoints(p, a, b, c)
		call := fmt.Sprintf("OmegaPoints(%d, %v, %v, %v)", p, a, b, c)
		checkThree(t, call, list, code, func(colour int64) (impl.Point, int64) { return impl.OrthocentreOf(p, colour, a, b, c) })
		for colour, h := range list {
			for _, at := range turnsOf(a, b, c) {
				if productIn(p, int64(colour), minus(p, h, at[0]), minus(p, at[1], at[2])) != 0 {
					t.Errorf("%s = %v: %v is not on the altitude at %v", call, list, h, at[0])
				}
			}
		}
	})
}

func TestThreeCircumcentres(t *testing.T) {
	inTriangles(func(p int64, a, b, c impl.Point) {
		list, code := impl.ThreeCircumcentres(p, a, b, c)
		call := fmt.Sprintf("ThreeCircumcentres(%d, %v, %v, %v)", p, a, b, c)
		checkThree(t, call, list, code, func(colour int64) (impl.Point, int64) { return impl.CircumcentreOf(p, colour, a, b, c) })
		for colour, o := range list {
			q := quadranceIn(p, int64(colour), o, a)
			if quadranceIn(p, int64(colour), o, b) != q || quadranceIn(p, int64(colour), o, c) != q {
				t.Errorf("%s = %v: the quadrances of %v are not equal", call, list, o)
			}
		}
	})
}

// allDiffer tells whether the order of a list of three shows.
func allDiffer[T comparable](list []T) bool {
	return len(list) == 3 && list[0] != list[1] && list[1] != list[2] && list[0] != list[2]
}

func TestCircumcentresAreMidpointsOfOmegaPoints(t *testing.T) {
	seen := map[int64]int{}
	inTriangles(func(p int64, a, b, c impl.Point) {
		omega, code1 := impl.OmegaPoints(p, a, b, c)
		centres, code2 := impl.ThreeCircumcentres(p, a, b, c)
		if len(omega) != 3 || len(centres) != 3 || code1 != impl.ErrNone || code2 != impl.ErrNone {
			t.Errorf("%v, %v, %v for %d: omega points %v, %d, circumcentres %v, %d", a, b, c, p, omega, code1, centres, code2)
			return
		}
		for colour, o := range centres {
			g, h := omega[(colour+1)%3], omega[(colour+2)%3]
			m, code := impl.MidpointOf(p, g, h)
			if o != m || code != impl.ErrNone || minus(p, o, g) != minus(p, h, o) {
				t.Errorf("%v, %v, %v for %d: the circumcentre %v in %d is not the midpoint of %v and %v", a, b, c, p, o, colour, g, h)
			}
		}
		if allDiffer(omega) && allDiffer(centres) {
			seen[p]++
		}
	})
	// For 3, two of the omega points of each triangle are equal.
	for _, p := range fields {
		if p != 3 && seen[p] < 50 || p == 3 && seen[p] != 0 {
			t.Errorf("triangles for %d with three different omega points: %d", p, seen[p])
		}
	}
}

// withoutEuler returns the colours in which a triangle has no line of Euler.
func withoutEuler(p int64, a, b, c impl.Point) []int64 {
	return slices.DeleteFunc(slices.Clone(colours), func(colour int64) bool { return hasEulerLine(p, colour, a, b, c) })
}

func checkEulerLines(t *testing.T, p int64, a, b, c impl.Point) {
	t.Helper()
	if len(withoutEuler(p, a, b, c)) > 0 {
		wantCode(t, sampleOf("ThreeEulerLines", impl.ThreeEulerLines), p, []any{a, b, c}, impl.ErrState)
		return
	}
	lines, code := impl.ThreeEulerLines(p, a, b, c)
	call := fmt.Sprintf("ThreeEulerLines(%d, %v, %v, %v)", p, a, b, c)
	checkThree(t, call, lines, code, func(colour int64) (impl.Line, int64) { return impl.EulerLineOf(p, colour, a, b, c) })
	omega, code1 := impl.OmegaPoints(p, a, b, c)
	centres, code2 := impl.ThreeCircumcentres(p, a, b, c)
	if len(lines) != 3 || len(omega) != 3 || len(centres) != 3 || code1 != impl.ErrNone || code2 != impl.ErrNone {
		t.Errorf("%s = %v, omega points %v, circumcentres %v", call, lines, omega, centres)
		return
	}
	for colour, l := range lines {
		if !isLine(p, l) || !on(p, omega[colour], l) || !on(p, centres[colour], l) {
			t.Errorf("%s = %v: %v does not have %v and %v", call, lines, l, omega[colour], centres[colour])
		}
	}
	if p == 3 {
		return
	}
	g, code := impl.CentroidOf(p, a, b, c)
	for _, l := range lines {
		if has, onCode := impl.IsOnLine(p, g, l); !has || !on(p, g, l) || code != impl.ErrNone || onCode != impl.ErrNone {
			t.Errorf("%s = %v: %v does not have the centroid %v", call, lines, l, g)
		}
	}
	for i, l := range lines {
		m := lines[(i+1)%3]
		if meet, code := impl.MeetOf(p, l, m); l != m && (meet != g || code != impl.ErrNone) {
			t.Errorf("%s = %v: %v and %v meet in %v, %d, not in the centroid %v", call, lines, l, m, meet, code, g)
		}
	}
}

func TestEulerLinesMeetInTheCentroid(t *testing.T) {
	differ := map[int64]int{}
	inTriangles(func(p int64, a, b, c impl.Point) {
		checkEulerLines(t, p, a, b, c)
		if lines, _ := impl.ThreeEulerLines(p, a, b, c); allDiffer(lines) {
			differ[p]++
		}
	})
	for _, p := range fields {
		if p != 3 && differ[p] < 50 {
			t.Errorf("triangles for %d with three different lines of Euler: %d", p, differ[p])
		}
	}
}

// For 3, where there is no centroid, all triangles have lines of Euler, and these are parallel: from the
// circumcentre of any colour, the way to the orthocentre is the sum of the three points.
func TestEulerLinesOfThreeAreParallel(t *testing.T) {
	eachThree(everyPoint(3), func(a, b, c impl.Point) {
		if !isTriangle(3, a, b, c) {
			return
		}
		along := impl.Point{mod(3, a[0]+b[0]+c[0]), mod(3, a[1]+b[1]+c[1])}
		lines, code := impl.ThreeEulerLines(3, a, b, c)
		if len(lines) != 3 || code != impl.ErrNone {
			t.Errorf("ThreeEulerLines(3, %v, %v, %v) = %v, %d", a, b, c, lines, code)
		}
		for _, l := range lines {
			if mod(3, l[0]*along[0]+l[1]*along[1]) != 0 {
				t.Errorf("ThreeEulerLines(3, %v, %v, %v) = %v: %v does not lead along %v", a, b, c, lines, l, along)
			}
		}
		wantCode(t, sampleOf("CentroidOf", impl.CentroidOf), 3, []any{a, b, c}, impl.ErrState)
	})
}

// All triangles are shifts of those with the point 0, 0. Those without a line of Euler have it in the
// two other colours: no triangle is without one in more than one colour.
func TestNoThreeEulerLines(t *testing.T) {
	for _, p := range fields {
		missing := map[int64]int{}
		points := everyPoint(p)
		for _, b := range points {
			for _, c := range points {
				a := impl.Point{}
				if !isTriangle(p, a, b, c) {
					continue
				}
				without := withoutEuler(p, a, b, c)
				if len(without) == 0 {
					continue
				}
				if len(without) > 1 {
					t.Errorf("%v, %v, %v for %d have no line of Euler in %v", a, b, c, p, without)
				}
				missing[without[0]]++
				by := points[(missing[without[0]]*7)%len(points)]
				for _, at := range turnsOf(by, minus(p, by, b), minus(p, by, c)) {
					wantCode(t, sampleOf("ThreeEulerLines", impl.ThreeEulerLines), p, []any{at[0], at[1], at[2]}, impl.ErrState)
				}
			}
		}
		for _, colour := range colours {
			n := int64(3)
			if colour != 0 {
				n = -3
			}
			if some := p != 3 && leastRoot(p, mod(p, n)) >= 0; some != (missing[colour] > 0) {
				t.Errorf("%d triangles without a line of Euler for %d in %d", missing[colour], p, colour)
			}
		}
	}
}

// isOmegaDouble tells the doubled area of the omega points by the numbers of the triangle alone. With
// a at 0, 0 they are the products of b and c, divided by the doubled area, times u, v in blue, u, -v in
// red, and v, u in green.
func isOmegaDouble(p, double int64, a, b, c impl.Point) bool {
	d, e, area := minus(p, b, a), minus(p, c, a), areaIn(p, a, b, c)
	s, r, g := productIn(p, 0, d, e), productIn(p, 1, d, e), productIn(p, 2, d, e)
	u, v := e[1]-d[1], d[0]-e[0]
	sum := mod(p, -2*s*r*u*v) + mod(p, r*g*(u*u+v*v)) + mod(p, g*s*(v*v-u*u))
	return mod(p, double*area*area) == mod(p, sum)
}

// The omega points are the same in whatever order the points of the triangle are told.
func TestOmegaDouble(t *testing.T) {
	seen := map[[2]int64]int{}
	inTriangles(func(p int64, a, b, c impl.Point) {
		double, code := impl.OmegaDouble(p, a, b, c)
		if code != impl.ErrNone || double < 0 || double >= p || !isOmegaDouble(p, double, a, b, c) {
			t.Errorf("OmegaDouble(%d, %v, %v, %v) = %d, %d", p, a, b, c, double, code)
		}
		omega, _ := impl.OmegaPoints(p, a, b, c)
		if area, areaCode := impl.DoubledArea(p, omega[0], omega[1], omega[2]); area != double || areaCode != impl.ErrNone {
			t.Errorf("OmegaDouble(%d, %v, %v, %v) = %d, but DoubledArea is %d, %d", p, a, b, c, double, area, areaCode)
		}
		for _, at := range append(turnsOf(a, b, c)[1:], turnsOf(c, b, a)...) {
			if other, code := impl.OmegaDouble(p, at[0], at[1], at[2]); other != double || code != impl.ErrNone {
				t.Errorf("OmegaDouble(%d, %v) = %d, %d, but in another order %d", p, at, other, code, double)
			}
		}
		seen[[2]int64{p, min(double, 1)}]++
	})
	for _, p := range fields {
		// For 3, two of the omega points of each triangle are equal.
		if seen[[2]int64{p, 0}] == 0 || (p == 3) != (seen[[2]int64{p, 1}] == 0) {
			t.Errorf("doubled areas for %d that are 0: %d, and others: %d", p, seen[[2]int64{p, 0}], seen[[2]int64{p, 1}])
		}
	}
}

func TestCentroidsOfOmegaPoints(t *testing.T) {
	inTriangles(func(p int64, a, b, c impl.Point) {
		omega, _ := impl.OmegaPoints(p, a, b, c)
		if double, _ := impl.OmegaDouble(p, a, b, c); double == 0 || p == 3 {
			return
		}
		want, code1 := impl.CentroidOf(p, a, b, c)
		g, code2 := impl.CentroidOf(p, omega[0], omega[1], omega[2])
		if g != want || code1 != impl.ErrNone || code2 != impl.ErrNone {
			t.Errorf("the omega points %v of %v, %v, %v for %d have the centroid %v, %d, want %v", omega, a, b, c, p, g, code2, want)
		}
	})
}

func nullColoursIn(p int64, l impl.Line) []int64 {
	return slices.DeleteFunc(slices.Clone(colours), func(colour int64) bool { return !isNull(p, colour, l) })
}

func checkFeet(t *testing.T, p int64, a impl.Point, l impl.Line) {
	t.Helper()
	if len(nullColoursIn(p, l)) > 0 {
		wantCode(t, sampleOf("ThreeFeet", impl.ThreeFeet), p, []any{a, l}, impl.ErrState)
		return
	}
	feet, code := impl.ThreeFeet(p, a, l)
	call := fmt.Sprintf("ThreeFeet(%d, %v, %v)", p, a, l)
	checkThree(t, call, feet, code, func(colour int64) (impl.Point, int64) { return impl.FootOf(p, colour, a, l) })
	for colour, foot := range feet {
		if !on(p, foot, l) || productIn(p, int64(colour), minus(p, a, foot), turned(p, l)) != 0 || on(p, a, l) && foot != a {
			t.Errorf("%s = %v: %v is no foot in %d", call, feet, foot, colour)
		}
	}
}

// For 3 all lines are null in red or green, and for 5 all are null in one of the three colours.
func TestThreeFeet(t *testing.T) {
	differ := map[int64]int{}
	for _, p := range fields {
		for _, l := range everyLine(p) {
			row := pointsOfLine(p, l)
			for _, a := range append(scattered(p, 9), row[0], row[1], row[len(row)-1]) {
				checkFeet(t, p, a, l)
				if feet, _ := impl.ThreeFeet(p, a, l); allDiffer(feet) {
					differ[p]++
				}
			}
		}
		if (p <= 5) != (differ[p] == 0) {
			t.Errorf("three different feet for %d: %d", p, differ[p])
		}
	}
}

// No line is null in more than one colour: its direction would be 0, 0.
func TestNullColours(t *testing.T) {
	for _, p := range fields {
		counts := map[int64]int64{}
		for _, l := range everyLine(p) {
			list, code := impl.NullColours(p, l)
			if want := nullColoursIn(p, l); !slices.Equal(list, want) || len(list) > 1 || code != impl.ErrNone {
				t.Errorf("NullColours(%d, %v) = %v, %d, want %v", p, l, list, code, want)
			}
			for _, colour := range colours {
				null, code := impl.IsNullLine(p, colour, l)
				if null != slices.Contains(list, colour) || code != impl.ErrNone {
					t.Errorf("NullColours(%d, %v) = %v, but IsNullLine is %v, %d in %d", p, l, list, null, code, colour)
				}
			}
			for _, colour := range list {
				counts[colour]++
			}
		}
		for _, colour := range colours {
			if some := hasNullLines(p, colour); some != (counts[colour] == 2*p) || !some && counts[colour] != 0 {
				t.Errorf("%d lines are null for %d in %d", counts[colour], p, colour)
			}
		}
	}
}

// colourSet has a place for each of a list of colours.
func colourSet(list []int64) (set [3]bool) {
	for _, colour := range list {
		set[colour] = true
	}
	return set
}

// wantColourSets expects that each set of colours is seen. Red and green without blue need a root of -1,
// and blue alone more numbers than 3 has.
func wantColourSets(t *testing.T, p int64, seen map[[3]bool]int) {
	t.Helper()
	for n := range 8 {
		set := [3]bool{n&1 != 0, n&2 != 0, n&4 != 0}
		can := true
		switch set {
		case [3]bool{false, true, true}:
			can = p%4 == 1
		case [3]bool{true, false, false}:
			can = p != 3
		}
		if can != (seen[set] > 0) {
			t.Errorf("blue, red and green %v for %d: %d", set, p, seen[set])
		}
	}
}

// fansOf calls check for some points a with some others, equal ones, mirror images and points of one line
// among them, and for primes up to 7 with all pairs of others.
func fansOf(p int64, check func(a, b, c impl.Point)) {
	for _, a := range scattered(p, 7) {
		for _, b := range scattered(p, 12) {
			x, y := b[0]-a[0], b[1]-a[1]
			for _, d := range []impl.Point{{x, y}, {-x, y}, {x, -y}, {-x, -y}, {y, x}, {-y, x}, {y, -x}, {-y, -x}, {0, 0}, {1, 1}, {1, 0}, {0, 1}} {
				c := impl.Point{mod(p, a[0]+d[0]), mod(p, a[1]+d[1])}
				check(a, b, c)
				check(a, c, b)
			}
			for _, c := range thinned(everyPoint(p), 60) {
				check(a, b, c)
			}
			check(a, b, b)
			check(a, a, b)
			check(a, b, a)
		}
		for _, l := range linesThrough(p, a) {
			row := pointsOfLine(p, l)
			check(a, row[0], row[0])
			check(a, row[0], row[1])
			check(a, row[1], row[1])
			check(a, a, row[1])
		}
	}
	if p > 7 {
		return
	}
	for _, a := range []impl.Point{{0, 0}, {1, 2}} {
		for _, b := range everyPoint(p) {
			for _, c := range everyPoint(p) {
				check(a, b, c)
			}
		}
	}
}

// checkColours expects the colours, ascending, for which a test holds.
func checkColours(t *testing.T, call string, list []int64, code int64, holds func(colour int64) (bool, int64)) {
	t.Helper()
	var want []int64
	for _, colour := range colours {
		yes, oneCode := holds(colour)
		if yes {
			want = append(want, colour)
		}
		if oneCode != impl.ErrNone {
			t.Errorf("%s: code %d in %d", call, oneCode, colour)
		}
	}
	if !slices.Equal(list, want) || code != impl.ErrNone {
		t.Errorf("%s = %v, %d, want %v", call, list, code, want)
	}
}

func TestRightColours(t *testing.T) {
	for _, p := range fields {
		seen := map[[3]bool]int{}
		fansOf(p, func(a, b, c impl.Point) {
			list, code := impl.RightColours(p, a, b, c)
			call := fmt.Sprintf("RightColours(%d, %v, %v, %v)", p, a, b, c)
			checkColours(t, call, list, code, func(colour int64) (bool, int64) { return impl.HasRightAngle(p, colour, a, b, c) })
			checkColours(t, call, list, code, func(colour int64) (bool, int64) {
				return productIn(p, colour, minus(p, b, a), minus(p, c, a)) == 0, impl.ErrNone
			})
			if all := len(list) == 3; all != (b == a || c == a) {
				t.Errorf("%s = %v", call, list)
			}
			if b == c && b != a && len(list) > 1 {
				t.Errorf("%s = %v: the line is null in more than one colour", call, list)
			}
			seen[colourSet(list)]++
		})
		wantColourSets(t, p, seen)
	}
}

func TestEqualColours(t *testing.T) {
	for _, p := range fields {
		seen := map[[3]bool]int{}
		fansOf(p, func(a, b, c impl.Point) {
			list, code := impl.EqualColours(p, a, b, c)
			call := fmt.Sprintf("EqualColours(%d, %v, %v, %v)", p, a, b, c)
			checkColours(t, call, list, code, func(colour int64) (bool, int64) {
				return quadranceIn(p, colour, a, b) == quadranceIn(p, colour, a, c), impl.ErrNone
			})
			atB, code1 := impl.ThreeQuadrances(p, a, b)
			atC, code2 := impl.ThreeQuadrances(p, a, c)
			if code1 == impl.ErrNone && code2 == impl.ErrNone {
				checkColours(t, call, list, code, func(colour int64) (bool, int64) { return atB[colour] == atC[colour], impl.ErrNone })
			}
			// Only b itself and the point on the other side of a have all three quadrances of b.
			if all := len(list) == 3; all != (b == c || minus(p, b, a) == minus(p, a, c)) {
				t.Errorf("%s = %v", call, list)
			}
			seen[colourSet(list)]++
		})
		wantColourSets(t, p, seen)
	}
}

// With b equal to a, the colours are those in which the line through a and c is null.
func TestEqualColoursOfThePointItself(t *testing.T) {
	for _, p := range fields {
		for _, a := range scattered(p, 5) {
			for _, c := range everyPoint(p) {
				want := colours
				if c != a {
					want = nullColoursIn(p, sideIn(p, a, c))
				}
				one, code1 := impl.EqualColours(p, a, a, c)
				other, code2 := impl.EqualColours(p, a, c, a)
				if !slices.Equal(one, want) || !slices.Equal(other, want) || code1 != impl.ErrNone || code2 != impl.ErrNone {
					t.Errorf("EqualColours(%d, %v) with itself and %v = %v, %d and %v, %d, want %v", p, a, c, one, code1, other, code2, want)
				}
			}
		}
	}
}

func TestUnitCounts(t *testing.T) {
	for _, p := range fields {
		counts, code := impl.UnitCounts(p)
		checkThree(t, fmt.Sprintf("UnitCounts(%d)", p), counts, code, func(colour int64) (int64, int64) {
			unitCircle := pointsWhere(p, func(a impl.Point) bool { return quadranceIn(p, colour, impl.Point{}, a) == 1 })
			return int64(len(unitCircle)), impl.ErrNone
		})
		// In blue there are 2 more where -1 is no square.
		blue := p + 1
		if p%4 == 1 {
			blue = p - 1
		}
		if !slices.Equal(counts, []int64{blue, p - 1, p - 1}) {
			t.Errorf("UnitCounts(%d) = %v, want %d, and twice %d", p, counts, blue, p-1)
		}
		for _, colour := range colours {
			points, code := impl.PointsAt(p, colour, impl.Point{}, 1)
			if colour != 0 && len(points) != int(p-1) || code != impl.ErrNone {
				t.Errorf("PointsAt(%d, %d, 0, 0, 1) has %d points, code %d", p, colour, len(points), code)
			}
		}
	}
}

// answerOf writes down all results of a call.
func answerOf(s sample, p int64) string {
	results, code := call(s.fn, p, s.args)
	return fmt.Sprintf("%s(%d, %v) = %v, %d", s.name, p, s.args, results, code)
}

// answerManyTimes has several callers at once, each of which calls many times.
func answerManyTimes(t *testing.T, s sample, p int64, want string) {
	var callers sync.WaitGroup
	for range 4 {
		callers.Go(func() {
			for range 10 {
				if got := answerOf(s, p); got != want {
					t.Errorf("%s, want %s", got, want)
				}
			}
		})
	}
	callers.Wait()
}

// .ci/run has this test run under the race detector too, by its name.
func TestColoursHoweverScheduled(t *testing.T) {
	samples := append(colourSamples(), sampleOf("UnitCounts", impl.UnitCounts))
	defer runtime.GOMAXPROCS(runtime.GOMAXPROCS(1))
	for _, p := range []int64{2, 3, 5, 7, 31} {
		for _, s := range samples {
			runtime.GOMAXPROCS(1)
			want := answerOf(s, p)
			for _, threads := range []int{1, 2, 8} {
				runtime.GOMAXPROCS(threads)
				answerManyTimes(t, s, p, want)
			}
		}
	}
}

func TestColourListsAreNew(t *testing.T) {
	a, b, c, l := impl.Point{0, 0}, impl.Point{1, 1}, impl.Point{2, 3}, impl.Line{1, 2, 0}
	checkNewLists(t, "ThreeQuadrances", func() ([]int64, int64) { return impl.ThreeQuadrances(11, a, c) })
	checkNewLists(t, "OmegaPoints", func() ([]impl.Point, int64) { return impl.OmegaPoints(11, a, b, c) })
	checkNewLists(t, "ThreeCircumcentres", func() ([]impl.Point, int64) { return impl.ThreeCircumcentres(11, a, b, c) })
	checkNewLists(t, "ThreeEulerLines", func() ([]impl.Line, int64) { return impl.ThreeEulerLines(11, a, b, c) })
	checkNewLists(t, "ThreeFeet", func() ([]impl.Point, int64) { return impl.ThreeFeet(11, b, l) })
	checkNewLists(t, "NullColours", func() ([]int64, int64) { return impl.NullColours(11, impl.Line{1, 10, 3}) })
	checkNewLists(t, "RightColours", func() ([]int64, int64) { return impl.RightColours(11, a, b, a) })
	checkNewLists(t, "UnitCounts", func() ([]int64, int64) { return impl.UnitCounts(11) })
	checkNewLists(t, "EqualColours", func() ([]int64, int64) { return impl.EqualColours(11, a, c, c) })
	if a != (impl.Point{0, 0}) || b != (impl.Point{1, 1}) || c != (impl.Point{2, 3}) || l != (impl.Line{1, 2, 0}) {
		t.Errorf("an argument is changed: %v, %v, %v, %v", a, b, c, l)
	}
}

func wantList[T comparable](t *testing.T, name string, want ...T) func(list []T, code int64) {
	t.Helper()
	return func(list []T, code int64) {
		t.Helper()
		if !slices.Equal(list, want) || code != impl.ErrNone {
			t.Errorf("%s = %v, %d, want %v", name, list, code, want)
		}
	}
}

// The numbers are those of the document, or worked out by hand.
func TestLayer10Examples(t *testing.T) {
	a, b, c := impl.Point{0, 0}, impl.Point{1, 1}, impl.Point{2, 3}
	wantList(t, "UnitCounts", int64(8), 6, 6)(impl.UnitCounts(7))
	wantList(t, "ThreeQuadrances", int64(5), 4, 4)(impl.ThreeQuadrances(7, a, impl.Point{1, 2}))
	wantList(t, "OmegaPoints", impl.Point{10, 6}, impl.Point{9, 10}, impl.Point{6, 10})(impl.OmegaPoints(11, a, b, c))
	wantList(t, "ThreeCircumcentres", impl.Point{2, 10}, impl.Point{8, 8}, impl.Point{4, 8})(impl.ThreeCircumcentres(11, a, b, c))
	wantList(t, "ThreeEulerLines", impl.Line{1, 2, 0}, impl.Line{1, 5, 7}, impl.Line{1, 10, 4})(impl.ThreeEulerLines(11, a, b, c))
	wantList(t, "ThreeFeet", impl.Point{7, 2}, impl.Point{2, 10}, impl.Point{5, 3})(impl.ThreeFeet(11, b, impl.Line{1, 2, 0}))
	if double, code := impl.OmegaDouble(11, a, b, c); double != 1 || code != impl.ErrNone {
		t.Errorf("OmegaDouble = %d, %d", double, code)
	}
	wantList(t, "NullColours", int64(0))(impl.NullColours(13, impl.Line{1, 5, 0}))
	wantList(t, "NullColours", int64(1))(impl.NullColours(13, impl.Line{1, 12, 3}))
	wantList(t, "NullColours", int64(2))(impl.NullColours(13, impl.Line{1, 0, 4}))
	wantList[int64](t, "NullColours")(impl.NullColours(13, impl.Line{1, 2, 0}))
	wantList(t, "RightColours", int64(0), 1)(impl.RightColours(7, a, impl.Point{1, 0}, impl.Point{0, 2}))
	wantList(t, "EqualColours", int64(0), 2)(impl.EqualColours(7, a, impl.Point{1, 2}, impl.Point{2, 1}))
}
