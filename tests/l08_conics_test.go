package tests

import (
	"slices"
	"testing"

	"loop.example/g01370/impl"
)

// valueIn says anew what is 0 just for the points of a conic.
func valueIn(p int64, k impl.Conic, a impl.Point) int64 {
	x, y := a[0], a[1]
	return mod(p, k[0]*x*x+k[1]*x*y+k[2]*y*y+k[3]*x+k[4]*y+k[5])
}

func pointsOfConic(p int64, k impl.Conic) []impl.Point {
	return pointsWhere(p, func(a impl.Point) bool { return valueIn(p, k, a) == 0 })
}

func everyConic(p int64) []impl.Conic {
	var list []impl.Conic
	for _, back := range everyNumbers(p) {
		d, e, f := back[0], back[1], back[2]
		list = append(list, impl.Conic{0, 0, 1, d, e, f})
		for c := range p {
			list = append(list, impl.Conic{0, 1, c, d, e, f})
			for b := range p {
				list = append(list, impl.Conic{1, b, c, d, e, f})
			}
		}
	}
	return list
}

func nonSquare(p int64) int64 {
	n := int64(2)
	for leastRoot(p, n) >= 0 {
		n++
	}
	return n
}

// shiftedConic returns the conic that has a + s just where k has a.
func shiftedConic(p int64, k impl.Conic, s impl.Point) impl.Conic {
	x, y := s[0], s[1]
	return impl.Conic{k[0], k[1], k[2],
		mod(p, k[3]-2*k[0]*x-k[1]*y), mod(p, k[4]-2*k[2]*y-k[1]*x), valueIn(p, k, impl.Point{-x, -y})}
}

// pairOfLines returns the conic that has the points of two lines. It needs no dividing: the first one
// of a, b and c that is not 0 is 1 because it is so for a and b of the lines.
func pairOfLines(p int64, l, m impl.Line) impl.Conic {
	return impl.Conic{mod(p, l[0]*m[0]), mod(p, l[0]*m[1]+l[1]*m[0]), mod(p, l[1]*m[1]),
		mod(p, l[0]*m[2]+l[2]*m[0]), mod(p, l[1]*m[2]+l[2]*m[1]), mod(p, l[2]*m[2])}
}

// namedConics has conics of each kind, proper ones and others, with a, b or c as the first number that
// is not 0.
func namedConics(p int64) []impl.Conic {
	n, minus1 := p-nonSquare(p), p-1
	return []impl.Conic{
		{1, 0, 0, 0, 1, 0}, {0, 0, 1, 1, 0, 0}, {0, 0, 1, 2, 1, 1}, {1, 2, 1, 1, 0, 0}, {1, 2, 1, 0, 2, 1},
		{1, 0, 0, 0, 0, 0}, {0, 0, 1, 0, 0, 0}, {1, 0, 0, 1, 0, 0}, {0, 0, 1, 0, 0, minus1}, {1, 2, 1, 1, 1, 0},
		{1, 0, 0, 0, 0, n}, {0, 0, 1, 0, 0, n}, {1, 2, 1, 0, 0, n}, {1, 2, 1, 0, 0, 0},
		{0, 1, 0, 0, 0, minus1}, {0, 1, 1, 0, 0, 1}, {0, 1, 2, 1, 0, 1}, {1, 0, minus1, 0, 0, 1}, {1, 0, minus1, 0, 0, n},
		{0, 1, 0, 0, 0, 0}, {0, 1, 1, 0, 0, 0}, {1, 0, minus1, 0, 0, 0}, {1, 1, 0, 0, 0, 0},
		{1, 0, n, 0, 0, 1}, {1, 0, n, 0, 0, minus1}, {1, 0, n, 0, 0, n}, {1, 0, n, 0, 0, 0},
	}
}

// someConics returns all conics of 3 and 5, and for the larger primes those that are named, shifted
// ones, and some with numbers of all kinds.
func someConics(p int64) []impl.Conic {
	if p <= 5 {
		return everyConic(p)
	}
	var list []impl.Conic
	for i, k := range namedConics(p) {
		list = append(list, k, shiftedConic(p, k, impl.Point{int64(i*5+1) % p, int64(i*3+2) % p}))
	}
	fronts := [][3]int64{{0, 0, 1}, {0, 1, 0}, {0, 1, 1}, {0, 1, p - 2}}
	for _, a := range scattered(p, 9) {
		fronts = append(fronts, [3]int64{1, a[0], a[1]})
	}
	for i, front := range fronts {
		for _, back := range thinned(everyNumbers(p), 7) {
			list = append(list, impl.Conic{front[0], front[1], front[2], mod(p, back[0]+int64(i)), mod(p, back[1]*3+1), back[2]})
		}
	}
	return list
}

func inConics(check func(p int64, k impl.Conic)) {
	for _, p := range fields {
		for _, k := range someConics(p) {
			check(p, k)
		}
	}
}

// isFlat tells whether the part of a conic without d, e and f is 0 along a line.
func isFlat(p int64, k impl.Conic, l impl.Line) bool {
	return valueIn(p, impl.Conic{k[0], k[1], k[2]}, turned(p, l)) == 0
}

// kindOfConic counts the slopes of the lines along which a conic is flat: there are two of them, one
// or none.
func kindOfConic(p int64, k impl.Conic) int64 {
	kind := int64(-1)
	for _, l := range linesThrough(p, impl.Point{0, 0}) {
		if isFlat(p, k, l) {
			kind++
		}
	}
	return kind
}

// determinantOfConic is the determinant, worked out by hand.
func determinantOfConic(p int64, k impl.Conic) int64 {
	a, b, c, d, e, f := k[0], k[1], k[2], k[3], k[4], k[5]
	return mod(p, 2*(4*a*c*f+b*d*e-a*e*e-c*d*d-b*b*f))
}

func isProper(p int64, k impl.Conic) bool {
	return determinantOfConic(p, k) != 0
}

// conicClass tells the prime of a conic, its kind, and whether it is proper.
type conicClass struct {
	p, kind int64
	proper  bool
}

func classOf(p int64, k impl.Conic) conicClass {
	return conicClass{p, kindOfConic(p, k), isProper(p, k)}
}

// wantAllClasses expects that something was seen for conics of each class that a test is about.
func wantAllClasses(t *testing.T, seen map[conicClass]int, about func(c conicClass) bool) {
	t.Helper()
	for _, p := range fields {
		for _, kind := range []int64{-1, 0, 1} {
			for _, proper := range []bool{false, true} {
				c := conicClass{p, kind, proper}
				if about(c) != (seen[c] > 0) {
					t.Errorf("seen %d times for conics of the class %v", seen[c], c)
				}
			}
		}
	}
}

// conicSamples has each function of the layer but IsConic, with arguments that have a result, and with
// those for which it returns ErrState or ErrNotFound.
func conicSamples() []sample {
	saddle, cross, bowl, row := impl.Conic{0, 1, 0, 0, 0, 2}, impl.Conic{0, 1, 0, 0, 0, 0}, impl.Conic{1, 0, 0, 0, 1, 0}, impl.Conic{0, 0, 1, 0, 0, 0}
	o, a, b, d := impl.Point{0, 0}, impl.Point{1, 0}, impl.Point{0, 1}, impl.Point{1, 1}
	list := []sample{
		sampleOf("ConicOf", impl.ConicOf, []int64{2, 1, 0, 1, 0, 2}), sampleOf("ConicOf", impl.ConicOf, []int64{0, 2, 1, 0, 0, 1}),
		sampleOf("ConicOf", impl.ConicOf, []int64{0, 0, 0, 1, 2, 1}), sampleOf("ConicOf", impl.ConicOf, []int64{0, 0, 0, 0, 0, 0}),
		sampleOf("ConicThrough", impl.ConicThrough, []impl.Point{o, a, b, d, {2, 2}}), sampleOf("ConicThrough", impl.ConicThrough, []impl.Point{o, a, b, a, d}),
		sampleOf("ConicThrough", impl.ConicThrough, []impl.Point{o, o, o, o, o}),
	}
	for _, k := range []impl.Conic{saddle, cross, bowl, row} {
		list = append(list, sampleOf("ConicPoints", impl.ConicPoints, k), sampleOf("KindOf", impl.KindOf, k),
			sampleOf("DeterminantOf", impl.DeterminantOf, k), sampleOf("CentreOf", impl.CentreOf, k))
		for _, at := range []impl.Point{o, a, d} {
			list = append(list, sampleOf("PolarOf", impl.PolarOf, k, at), sampleOf("TangentOf", impl.TangentOf, k, at))
		}
		for _, l := range []impl.Line{{1, 0, 0}, {0, 1, 1}, {1, 1, 2}} {
			list = append(list, sampleOf("PoleOf", impl.PoleOf, k, l))
		}
	}
	for _, c := range []colour{0, 1, 2} {
		for _, l := range []impl.Line{{1, 0, 0}, {0, 1, 1}, {1, 1, 0}, {1, 2, 2}} {
			list = append(list, sampleOf("ParabolaOf", impl.ParabolaOf, c, a, l), sampleOf("ParabolaOf", impl.ParabolaOf, c, o, l))
		}
	}
	return list
}

func TestConicsInvalidFirst(t *testing.T) {
	checkInvalidFirst(t, append(conicSamples(), sampleOf("IsConic", impl.IsConic, impl.Conic{1, 0, 1, 0, 0, 2}),
		sampleOf("IsConic", impl.IsConic, impl.Conic{0, 0, 1, 1, 0, 0}), sampleOf("IsConic", impl.IsConic, impl.Conic{})))
}

func TestConicsRangeSecond(t *testing.T) { checkRangeSecond(t, conicSamples()) }

func wantConic(t *testing.T, p int64, k impl.Conic, want bool) {
	t.Helper()
	if yes, code := impl.IsConic(p, k); yes != want || code != impl.ErrNone {
		t.Errorf("IsConic(%d, %v) = %v, %d", p, k, yes, code)
	}
}

// What is no conic is the answer false, beside ErrNone.
func TestIsConic(t *testing.T) {
	inConics(func(p int64, k impl.Conic) { wantConic(t, p, k, true) })
	for _, p := range fields {
		for _, k := range []impl.Conic{{1, 2, 0, 1, 1, 2}, {0, 1, 0, 0, 0, 1}, {0, 0, 1, 1, 0, 0}} {
			for _, bad := range outOfRange(p, k) {
				wantConic(t, p, bad.(impl.Conic), false)
			}
		}
		for n := int64(2); n < p; n++ {
			for _, k := range []impl.Conic{{n, 1, 1, 1, 1, 1}, {0, n, 1, 1, 1, 1}, {0, 0, n, 1, 1, 1}, {0, 0, 0, n, 1, 1}} {
				wantConic(t, p, k, false)
			}
		}
	}
}

// Of all six numbers from -1 to 3, those are conics for 3 that are among all conics.
func TestIsConicForAllNumbers(t *testing.T) {
	conics := map[impl.Conic]bool{}
	for _, k := range everyConic(3) {
		conics[k] = true
	}
	found := 0
	for n := range 5 * 5 * 5 * 5 * 5 * 5 {
		var k impl.Conic
		for i := range k {
			k[i] = int64(n%5) - 1
			n /= 5
		}
		wantConic(t, 3, k, conics[k])
		if conics[k] {
			found++
		}
	}
	if found != len(conics) || found != 13*27 {
		t.Errorf("%d conics of 3", found)
	}
}

func timesNumber(p int64, k impl.Conic, n int64) []int64 {
	var list []int64
	for _, part := range k {
		list = append(list, mod(p, part*n))
	}
	return list
}

func TestConicOf(t *testing.T) {
	leads := map[[2]int64]int{}
	inConics(func(p int64, k impl.Conic) {
		for n := int64(1); n < p; n++ {
			list := timesNumber(p, k, n)
			if got, code := impl.ConicOf(p, list); got != k || code != impl.ErrNone {
				t.Errorf("ConicOf(%d, %v) = %v, %d, want %v", p, list, got, code, k)
			}
			if isConic, code := impl.IsConic(p, impl.Conic(list)); isConic != (n == 1) || code != impl.ErrNone {
				t.Errorf("IsConic(%d, %v) = %v, %d", p, list, isConic, code)
			}
		}
		leads[[2]int64{p, int64(slices.Index(k[:], 1))}]++
	})
	for _, p := range fields {
		if leads[[2]int64{p, 0}] == 0 || leads[[2]int64{p, 1}] == 0 || leads[[2]int64{p, 2}] == 0 {
			t.Errorf("first numbers of conics for %d: %v", p, leads)
		}
	}
}

func TestNumbersThatMakeNoConic(t *testing.T) {
	for _, p := range fields {
		for _, back := range thinned(everyNumbers(p), 300) {
			list := []int64{0, 0, 0, back[0], back[1], back[2]}
			wantCode(t, sampleOf("ConicOf", impl.ConicOf), p, []any{list}, impl.ErrState)
		}
	}
}

// pointsOfClass tells how many points a conic has: the proper ones have p, p - 1 or p + 1 by their
// kind, the others are two lines, one line, one point, or nothing.
func pointsOfClass(c conicClass) []int64 {
	switch {
	case c.proper:
		return []int64{c.p - c.kind}
	case c.kind == 1:
		return []int64{2*c.p - 1}
	case c.kind == -1:
		return []int64{1}
	}
	return []int64{0, c.p, 2 * c.p}
}

func TestPointsOfConics(t *testing.T) {
	counts := map[conicClass]map[int64]int{}
	inConics(func(p int64, k impl.Conic) {
		want := pointsOfConic(p, k)
		list, code := impl.ConicPoints(p, k)
		if !slices.Equal(list, want) || code != impl.ErrNone {
			t.Errorf("ConicPoints(%d, %v) = %v, %d, want %v", p, k, list, code, want)
		}
		class := classOf(p, k)
		if !slices.Contains(pointsOfClass(class), int64(len(list))) {
			t.Errorf("ConicPoints(%d, %v): %d points for the class %v", p, k, len(list), class)
		}
		if counts[class] == nil {
			counts[class] = map[int64]int{}
		}
		counts[class][int64(len(list))]++
	})
	for _, p := range fields {
		for _, kind := range []int64{-1, 0, 1} {
			for _, proper := range []bool{false, true} {
				class := conicClass{p, kind, proper}
				if len(counts[class]) != len(pointsOfClass(class)) {
					t.Errorf("numbers of points seen for the class %v: %v", class, counts[class])
				}
			}
		}
	}
}

// checkPair expects the points of two lines, which may be equal.
func checkPair(t *testing.T, p int64, l, m impl.Line) {
	t.Helper()
	k := pairOfLines(p, l, m)
	list, code := impl.ConicPoints(p, k)
	want := pointsWhere(p, func(a impl.Point) bool { return on(p, a, l) || on(p, a, m) })
	if !slices.Equal(list, want) || code != impl.ErrNone {
		t.Errorf("ConicPoints(%d, %v) = %v, %d, want those of %v and %v", p, k, list, code, l, m)
	}
	kind, code1 := impl.KindOf(p, k)
	determinant, code2 := impl.DeterminantOf(p, k)
	parallel := l[0] == m[0] && l[1] == m[1]
	if (kind == 0) != parallel || kind < 0 || determinant != 0 || code1 != impl.ErrNone || code2 != impl.ErrNone {
		t.Errorf("%v and %v for %d: %v has the kind %d, %d, and the determinant %d, %d", l, m, p, k, kind, code1, determinant, code2)
	}
	if parallel {
		wantCode(t, sampleOf("CentreOf", impl.CentreOf), p, []any{k}, impl.ErrState)
		return
	}
	meet, code1 := impl.MeetOf(p, l, m)
	if centre, code := impl.CentreOf(p, k); centre != meet || code != impl.ErrNone || code1 != impl.ErrNone {
		t.Errorf("CentreOf(%d, %v) = %v, %d, but the lines meet in %v", p, k, centre, code, meet)
	}
}

func TestConicsOfLines(t *testing.T) {
	for _, p := range fields {
		lines := twoOfEachSlope(p)
		some := thinned(lines, 8)
		for i, l := range lines {
			checkPair(t, p, l, l)
			checkPair(t, p, l, lines[(i+1)%len(lines)])
			for _, m := range some {
				checkPair(t, p, l, m)
			}
		}
	}
}

// The product of a line with itself less n times that of another one is 0 just in their meet, if n is
// no square, and nowhere if they are parallel and not the same.
func TestConicsOfOnePointAndOfNone(t *testing.T) {
	for _, p := range fields {
		n := nonSquare(p)
		for _, l := range twoOfEachSlope(p) {
			for _, m := range thinned(twoOfEachSlope(p), 8) {
				if l == m {
					continue
				}
				var list []int64
				second := pairOfLines(p, m, m)
				for i, part := range pairOfLines(p, l, l) {
					list = append(list, mod(p, part-n*second[i]))
				}
				k, code1 := impl.ConicOf(p, list)
				points, code2 := impl.ConicPoints(p, k)
				want := pointsWhere(p, func(a impl.Point) bool { return on(p, a, l) && on(p, a, m) })
				if !slices.Equal(points, want) || len(want) > 1 || code1 != impl.ErrNone || code2 != impl.ErrNone {
					t.Errorf("ConicPoints(%d, %v) = %v, %d, want %v", p, k, points, code2, want)
				}
			}
		}
	}
}

func TestKindsAndDeterminants(t *testing.T) {
	seen := map[conicClass]int{}
	inConics(func(p int64, k impl.Conic) {
		class := classOf(p, k)
		if kind, code := impl.KindOf(p, k); kind != class.kind || code != impl.ErrNone {
			t.Errorf("KindOf(%d, %v) = %d, %d, want %d", p, k, kind, code, class.kind)
		}
		determinant, code := impl.DeterminantOf(p, k)
		if determinant != determinantOfConic(p, k) || code != impl.ErrNone {
			t.Errorf("DeterminantOf(%d, %v) = %d, %d, want %d", p, k, determinant, code, determinantOfConic(p, k))
		}
		seen[class]++
	})
	wantAllClasses(t, seen, func(conicClass) bool { return true })
}

// All numbers are determinants: of x x - n y y - m, it is 8 n m.
func TestAllDeterminants(t *testing.T) {
	for _, p := range fields {
		for n := range p {
			for m := range p {
				k := impl.Conic{1, 0, mod(p, -n), 0, 0, mod(p, -m)}
				if determinant, code := impl.DeterminantOf(p, k); determinant != mod(p, 8*n*m) || code != impl.ErrNone {
					t.Errorf("DeterminantOf(%d, %v) = %d, %d", p, k, determinant, code)
				}
			}
		}
	}
}

// slopesAt returns the first two of the numbers that make the polar of a point.
func slopesAt(p int64, k impl.Conic, a impl.Point) impl.Point {
	x, y := a[0], a[1]
	return impl.Point{mod(p, 2*k[0]*x+k[1]*y+k[3]), mod(p, k[1]*x+2*k[2]*y+k[4])}
}

func pointsWithoutSlopes(p int64, k impl.Conic) []impl.Point {
	return pointsWhere(p, func(a impl.Point) bool { return slopesAt(p, k, a) == impl.Point{} })
}

// checkCentre expects the midpoint of each point and another one for which the conic has both or none.
func checkCentre(t *testing.T, p int64, k impl.Conic) {
	t.Helper()
	centre, code := impl.CentreOf(p, k)
	if want := pointsWithoutSlopes(p, k); len(want) != 1 || centre != want[0] || code != impl.ErrNone {
		t.Errorf("CentreOf(%d, %v) = %v, %d, want %v", p, k, centre, code, want)
		return
	}
	points, code := impl.ConicPoints(p, k)
	if code != impl.ErrNone {
		t.Errorf("ConicPoints(%d, %v): code %d", p, k, code)
	}
	for _, a := range points {
		b := mixed(p, a, centre, 2)
		if m, code := impl.MidpointOf(p, a, b); m != centre || !slices.Contains(points, b) || code != impl.ErrNone {
			t.Errorf("CentreOf(%d, %v) = %v: the conic has %v, with %v as the midpoint with %v, %d", p, k, centre, a, m, b, code)
		}
	}
	for _, a := range everyPoint(p) {
		if (valueIn(p, k, a) == 0) != (valueIn(p, k, mixed(p, a, centre, 2)) == 0) {
			t.Errorf("CentreOf(%d, %v) = %v: only one of %v and %v is on the conic", p, k, centre, a, mixed(p, a, centre, 2))
		}
	}
}

func TestCentresAreMidpoints(t *testing.T) {
	seen := map[conicClass]int{}
	inConics(func(p int64, k impl.Conic) {
		class := classOf(p, k)
		if class.kind == 0 {
			wantCode(t, sampleOf("CentreOf", impl.CentreOf), p, []any{k}, impl.ErrState)
			return
		}
		checkCentre(t, p, k)
		seen[class]++
	})
	wantAllClasses(t, seen, func(c conicClass) bool { return c.kind != 0 })
}

// areConjugate tells whether b is on the polar of a without the polar, by values alone: 4 times the
// value at the midpoint is the sum of both values just then.
func areConjugate(p int64, k impl.Conic, a, b impl.Point) bool {
	return mod(p, 4*valueIn(p, k, mixed(p, a, b, (p+1)/2))-valueIn(p, k, a)-valueIn(p, k, b)) == 0
}

// checkPolar reports whether a point has a polar. A point has none where no point, or each one, would
// be on it.
func checkPolar(t *testing.T, p int64, k impl.Conic, a impl.Point) bool {
	t.Helper()
	want := pointsWhere(p, func(b impl.Point) bool { return areConjugate(p, k, a, b) })
	if int64(len(want)) != p {
		if slopesAt(p, k, a) != (impl.Point{}) || len(want) != 0 && int64(len(want)) != p*p {
			t.Errorf("%v has for %v and %d %d points on its polar", a, k, p, len(want))
		}
		wantCode(t, sampleOf("PolarOf", impl.PolarOf), p, []any{k, a}, impl.ErrState)
		return false
	}
	l, code := impl.PolarOf(p, k, a)
	if l != sideIn(p, want[0], want[1]) || code != impl.ErrNone {
		t.Errorf("PolarOf(%d, %v, %v) = %v, %d, want %v", p, k, a, l, code, want)
	}
	if points, code := impl.PointsOn(p, l); !slices.Equal(points, want) || code != impl.ErrNone {
		t.Errorf("PolarOf(%d, %v, %v) = %v has %v, %d, want %v", p, k, a, l, points, code, want)
	}
	if on(p, a, l) != (valueIn(p, k, a) == 0) {
		t.Errorf("PolarOf(%d, %v, %v) = %v: the point is on it: %v", p, k, a, l, on(p, a, l))
	}
	return true
}

// placesFor returns points for a conic: all of a small prime, and for the others points on it, points
// beside it, and points without a polar.
func placesFor(p int64, k impl.Conic) []impl.Point {
	if p <= 5 {
		return everyPoint(p)
	}
	some := scattered(p, 5)
	for _, list := range [][]impl.Point{pointsOfConic(p, k), pointsWithoutSlopes(p, k)} {
		if len(list) > 0 {
			some = append(some, thinned(list, 3)...)
		}
	}
	return some
}

func TestPolars(t *testing.T) {
	onConic, beside, none := map[conicClass]int{}, map[conicClass]int{}, map[conicClass]int{}
	inConics(func(p int64, k impl.Conic) {
		class := classOf(p, k)
		for _, a := range placesFor(p, k) {
			if !checkPolar(t, p, k, a) {
				none[class]++
			} else if valueIn(p, k, a) == 0 {
				onConic[class]++
			} else {
				beside[class]++
			}
		}
	})
	all := func(conicClass) bool { return true }
	wantAllClasses(t, beside, all)
	// The points of a conic that is one point, or one line twice, have no polar.
	wantAllClasses(t, onConic, func(c conicClass) bool { return c.proper || c.kind != -1 })
	wantAllClasses(t, none, func(c conicClass) bool { return !c.proper || c.kind != 0 })
}

// A conic of a kind other than 0 has just one point without a polar, its centre. One of the kind 0 has
// none if it is proper, and the points of one line if it is not.
func TestPointsWithoutPolars(t *testing.T) {
	seen := map[conicClass]int{}
	inConics(func(p int64, k impl.Conic) {
		var none []impl.Point
		for _, a := range everyPoint(p) {
			l, code := impl.PolarOf(p, k, a)
			if code == impl.ErrState && l == (impl.Line{}) {
				none = append(none, a)
			} else if code != impl.ErrNone {
				t.Errorf("PolarOf(%d, %v, %v) = %v, %d", p, k, a, l, code)
			}
		}
		class := classOf(p, k)
		want, centre := int64(0), impl.Point{}
		if class.kind != 0 {
			want = 1
			centre, _ = impl.CentreOf(p, k)
		} else if !class.proper {
			want = p
		}
		if int64(len(none)) != want || class.kind != 0 && none[0] != centre {
			t.Errorf("no polars for %v and %d of %v, want %d", k, p, none, want)
		}
		if want == p && !slices.Equal(none, pointsOfLine(p, sideIn(p, none[0], none[1]))) {
			t.Errorf("no polars for %v and %d of %v, which are not those of a line", k, p, none)
		}
		seen[class]++
	})
	wantAllClasses(t, seen, func(conicClass) bool { return true })
}

func checkPole(t *testing.T, p int64, k impl.Conic, l impl.Line) bool {
	t.Helper()
	row := pointsOfLine(p, l)
	want := pointsWhere(p, func(a impl.Point) bool { return areConjugate(p, k, a, row[0]) && areConjugate(p, k, a, row[1]) })
	if len(want) == 0 {
		wantCode(t, sampleOf("PoleOf", impl.PoleOf), p, []any{k, l}, impl.ErrNotFound)
		return false
	}
	pole, code := impl.PoleOf(p, k, l)
	if len(want) != 1 || pole != want[0] || code != impl.ErrNone {
		t.Errorf("PoleOf(%d, %v, %v) = %v, %d, want %v", p, k, l, pole, code, want)
	}
	if polar, code := impl.PolarOf(p, k, pole); polar != l || code != impl.ErrNone {
		t.Errorf("PoleOf(%d, %v, %v) = %v, of which the polar is %v, %d", p, k, l, pole, polar, code)
	}
	return true
}

// linesFor returns lines for a conic: all of 3, and for the others some of each slope, and lines
// through the centre and through points of the conic.
func linesFor(p int64, k impl.Conic) []impl.Line {
	if p == 3 {
		return everyLine(p)
	}
	lines := thinned(twoOfEachSlope(p), 6)
	for _, list := range [][]impl.Point{pointsOfConic(p, k), pointsWithoutSlopes(p, k)} {
		if len(list) > 0 {
			lines = append(lines, thinned(linesThrough(p, list[0]), 3)...)
		}
	}
	return lines
}

func TestPolesHaveTheirPolars(t *testing.T) {
	found, missing := map[conicClass]int{}, map[conicClass]int{}
	inConics(func(p int64, k impl.Conic) {
		class := classOf(p, k)
		if !class.proper {
			return
		}
		for _, l := range linesFor(p, k) {
			if checkPole(t, p, k, l) {
				found[class]++
			} else {
				missing[class]++
			}
		}
		for _, a := range placesFor(p, k) {
			l, code := impl.PolarOf(p, k, a)
			if code != impl.ErrNone {
				continue
			}
			if pole, code := impl.PoleOf(p, k, l); pole != a || code != impl.ErrNone {
				t.Errorf("PolarOf(%d, %v, %v) = %v, of which the pole is %v, %d", p, k, a, l, pole, code)
			}
		}
	})
	wantAllClasses(t, found, func(c conicClass) bool { return c.proper })
	wantAllClasses(t, missing, func(c conicClass) bool { return c.proper })
}

// The lines without a pole are those through the centre, and for the kind 0 those along which the
// conic is flat.
func TestLinesWithoutPoles(t *testing.T) {
	for _, p := range fields {
		for _, k := range namedConics(p) {
			class := classOf(p, k)
			if !class.proper {
				continue
			}
			for _, l := range everyLine(p) {
				none := isFlat(p, k, l)
				if class.kind != 0 {
					none = on(p, pointsWithoutSlopes(p, k)[0], l)
				}
				if _, code := impl.PoleOf(p, k, l); (code == impl.ErrNotFound) != none || code != impl.ErrNone && code != impl.ErrNotFound {
					t.Errorf("PoleOf(%d, %v, %v): code %d, want none: %v", p, k, l, code, none)
				}
			}
		}
	}
}

func TestNoPolesOfConicsThatAreNotProper(t *testing.T) {
	seen := map[conicClass]int{}
	inConics(func(p int64, k impl.Conic) {
		class := classOf(p, k)
		if class.proper {
			return
		}
		lines := linesFor(p, k)
		for _, a := range placesFor(p, k) {
			if l, code := impl.PolarOf(p, k, a); code == impl.ErrNone {
				lines = append(lines, l)
				seen[class]++
			}
		}
		for _, l := range lines {
			wantCode(t, sampleOf("PoleOf", impl.PoleOf), p, []any{k, l}, impl.ErrState)
		}
	})
	wantAllClasses(t, seen, func(c conicClass) bool { return !c.proper })
}

// checkTangent expects the only line through a that has no other point of the conic, but for those
// along which the conic is flat: these have just one point too.
func checkTangent(t *testing.T, p int64, k impl.Conic, a impl.Point, points []impl.Point) {
	t.Helper()
	l, code := impl.TangentOf(p, k, a)
	var want []impl.Line
	for _, m := range linesThrough(p, a) {
		if !isFlat(p, k, m) && !slices.ContainsFunc(points, func(b impl.Point) bool { return b != a && on(p, b, m) }) {
			want = append(want, m)
		}
	}
	if len(want) != 1 || l != want[0] || code != impl.ErrNone {
		t.Errorf("TangentOf(%d, %v, %v) = %v, %d, want %v", p, k, a, l, code, want)
	}
	row, code := impl.PointsOn(p, l)
	row = slices.DeleteFunc(row, func(b impl.Point) bool { return !slices.Contains(points, b) })
	if !slices.Equal(row, []impl.Point{a}) || code != impl.ErrNone {
		t.Errorf("TangentOf(%d, %v, %v) = %v has %v of the conic, %d", p, k, a, l, row, code)
	}
	if polar, code := impl.PolarOf(p, k, a); polar != l || code != impl.ErrNone {
		t.Errorf("TangentOf(%d, %v, %v) = %v, but the polar is %v, %d", p, k, a, l, polar, code)
	}
}

func TestTangents(t *testing.T) {
	seen := map[conicClass]int{}
	inConics(func(p int64, k impl.Conic) {
		class := classOf(p, k)
		points := pointsOfConic(p, k)
		for _, a := range placesFor(p, k) {
			if class.proper && valueIn(p, k, a) == 0 {
				checkTangent(t, p, k, a, points)
				seen[class]++
				continue
			}
			wantCode(t, sampleOf("TangentOf", impl.TangentOf), p, []any{k, a}, impl.ErrState)
		}
	})
	wantAllClasses(t, seen, func(c conicClass) bool { return c.proper })
}

// setsOf has for each conic of a small prime a bit for each of its points.
func setsOf(p int64, conics []impl.Conic) []uint64 {
	var sets []uint64
	for _, k := range conics {
		sets = append(sets, setOf(p, pointsOfConic(p, k)))
	}
	return sets
}

func setOf(p int64, points []impl.Point) uint64 {
	set := uint64(0)
	for _, a := range points {
		set |= 1 << (a[0]*p + a[1])
	}
	return set
}

// checkAgainstAll holds five points against all conics of a small prime. It reports whether there is
// just one.
func checkAgainstAll(t *testing.T, p int64, points []impl.Point, conics []impl.Conic, sets []uint64) bool {
	t.Helper()
	five, found, count := setOf(p, points), impl.Conic{}, 0
	for i, set := range sets {
		if set&five == five {
			found = conics[i]
			count++
		}
	}
	if count != 1 {
		wantCode(t, sampleOf("ConicThrough", impl.ConicThrough), p, []any{points}, impl.ErrState)
		return false
	}
	if k, code := impl.ConicThrough(p, points); k != found || code != impl.ErrNone {
		t.Errorf("ConicThrough(%d, %v) = %v, %d, want %v", p, points, k, code, found)
	}
	return true
}

func TestConicsThroughAnyPointsOfThree(t *testing.T) {
	conics, plane := everyConic(3), everyPoint(3)
	sets := setsOf(3, conics)
	found := 0
	for n := range 9 * 9 * 9 * 9 * 9 {
		points := []impl.Point{plane[n/6561], plane[n/729%9], plane[n/81%9], plane[n/9%9], plane[n%9]}
		if checkAgainstAll(t, 3, points, conics, sets) {
			found++
		}
	}
	// Five points of 3 have one conic just if they are all different.
	if found != 9*8*7*6*5 {
		t.Errorf("%d lists of points of 3 with one conic", found)
	}
}

func TestConicsThroughPointsOfSmallPrimes(t *testing.T) {
	for _, p := range []int64{5, 7} {
		conics, answers := everyConic(p), map[bool]int{}
		sets := setsOf(p, conics)
		for _, points := range fives(p) {
			answers[checkAgainstAll(t, p, points, conics, sets)]++
		}
		if answers[true] < 100 || answers[false] < 100 {
			t.Errorf("lists of points of %d with one conic, and with more: %v", p, answers)
		}
	}
}

// fives returns lists of five points: scattered ones, those with three, four and five on a line, those
// with one of them twice or more, and those of conics.
func fives(p int64) [][]impl.Point {
	var lists [][]impl.Point
	some := scattered(p, 150)
	for i := range some[4:] {
		lists = append(lists, some[i:i+5])
	}
	for i, l := range thinned(twoOfEachSlope(p), 14) {
		row, a, b := pointsOfLine(p, l), some[i], some[i+7]
		n := len(row)
		lists = append(lists, []impl.Point{row[0], row[1], row[n-1], a, b}, []impl.Point{a, row[1], row[0], b, row[2]},
			[]impl.Point{row[0], row[1], row[2], row[3%n], a}, []impl.Point{a, row[n-1], row[0], row[2], row[1]},
			[]impl.Point{row[1], row[0], a, row[2], row[n/2]}, []impl.Point{row[0], a, row[1], row[2], row[n-1]},
			[]impl.Point{row[0], row[1], row[2], row[3%n], row[4%n]}, []impl.Point{a, a, b, row[0], row[1]}, []impl.Point{a, b, row[0], row[1], a},
			[]impl.Point{row[0], a, row[1], a, b}, []impl.Point{a, a, b, b, row[1]}, []impl.Point{a, a, a, b, b}, []impl.Point{a, a, a, a, a})
	}
	for _, k := range namedConics(p) {
		if points := pointsOfConic(p, k); len(points) >= 5 {
			step := len(points) / 5
			lists = append(lists, points[:5], points[len(points)-5:], []impl.Point{points[4*step], points[0], points[2*step], points[3*step], points[step]})
		}
	}
	return lists
}

// haveOneConic tells by lines alone whether just one conic has five points: they must be different,
// and no four of them on a line.
func haveOneConic(p int64, points []impl.Point) bool {
	for i, a := range points {
		for _, b := range points[:i] {
			if a == b {
				return false
			}
			onLine := 0
			for _, c := range points {
				if areaIn(p, a, b, c) == 0 {
					onLine++
				}
			}
			if onLine > 3 {
				return false
			}
		}
	}
	return true
}

// checkConicThrough expects the conic also when the points are told in another order.
func checkConicThrough(t *testing.T, p int64, points []impl.Point) impl.Conic {
	t.Helper()
	k, code := impl.ConicThrough(p, points)
	if code != impl.ErrNone {
		t.Errorf("ConicThrough(%d, %v): code %d", p, points, code)
		return k
	}
	wantConic(t, p, k, true)
	all, code := impl.ConicPoints(p, k)
	for _, a := range points {
		if valueIn(p, k, a) != 0 || !slices.Contains(all, a) || code != impl.ErrNone {
			t.Errorf("ConicThrough(%d, %v) = %v, on which %v is not, %d", p, points, k, a, code)
		}
	}
	back := slices.Clone(points)
	slices.Reverse(back)
	turn := slices.Concat(points[2:], points[:2])
	for _, other := range [][]impl.Point{back, turn} {
		if again, code := impl.ConicThrough(p, other); again != k || code != impl.ErrNone {
			t.Errorf("ConicThrough(%d, %v) = %v, but in the order %v it is %v, %d", p, points, k, other, again, code)
		}
	}
	return k
}

func TestConicsThroughPointsHaveThem(t *testing.T) {
	seen, refused := map[conicClass]int{}, map[int64]int{}
	for _, p := range fields {
		for _, points := range fives(p) {
			if !haveOneConic(p, points) {
				wantCode(t, sampleOf("ConicThrough", impl.ConicThrough), p, []any{points}, impl.ErrState)
				refused[p]++
				continue
			}
			k := checkConicThrough(t, p, points)
			seen[classOf(p, k)]++
		}
		if refused[p] < 30 {
			t.Errorf("%d lists of points for %d that have no only conic", refused[p], p)
		}
	}
	// Five points, no four of them on a line, are on conics of all classes that have so many.
	wantAllClasses(t, seen, func(c conicClass) bool { return slices.Max(pointsOfClass(c)) >= 5 })
}

// Of a proper conic, any five points are enough to tell it, whatever its first number is.
func TestConicsThroughTheirPoints(t *testing.T) {
	leads := map[[2]int64]int{}
	inConics(func(p int64, k impl.Conic) {
		points := pointsOfConic(p, k)
		if !isProper(p, k) || len(points) < 5 {
			return
		}
		step := len(points) / 5
		for _, five := range [][]impl.Point{points[:5], {points[4*step], points[step], points[0], points[3*step], points[2*step]}} {
			if got, code := impl.ConicThrough(p, five); got != k || code != impl.ErrNone {
				t.Errorf("ConicThrough(%d, %v) = %v, %d, want %v", p, five, got, code, k)
			}
		}
		leads[[2]int64{p, int64(slices.Index(k[:], 1))}]++
	})
	for _, p := range fields[2:] {
		if leads[[2]int64{p, 0}] == 0 || leads[[2]int64{p, 1}] == 0 || leads[[2]int64{p, 2}] == 0 {
			t.Errorf("first numbers of conics for %d: %v", p, leads)
		}
	}
}

// feetIn looks for the foot of each point on a line that is not null.
func feetIn(p, colour int64, l impl.Line) map[impl.Point]impl.Point {
	feet, row, along := map[impl.Point]impl.Point{}, pointsOfLine(p, l), alongLine(p, l)
	for _, a := range everyPoint(p) {
		for _, b := range row {
			if productIn(p, colour, minus(p, a, b), along) == 0 {
				feet[a] = b
			}
		}
	}
	return feet
}

// checkParabola expects, at each point of the plane, the same number times what both quadrances differ
// by; this tells all six numbers.
func checkParabola(t *testing.T, p, colour int64, focus impl.Point, l impl.Line, feet map[impl.Point]impl.Point) {
	t.Helper()
	k, code := impl.ParabolaOf(p, colour, focus, l)
	if code != impl.ErrNone {
		t.Errorf("ParabolaOf(%d, %d, %v, %v): code %d", p, colour, focus, l, code)
		return
	}
	wantConic(t, p, k, true)
	factor := int64(0)
	for _, a := range everyPoint(p) {
		less, value := mod(p, quadranceIn(p, colour, a, focus)-quadranceIn(p, colour, a, feet[a])), valueIn(p, k, a)
		if factor == 0 && value != 0 {
			factor = quotientIn(p, less, value)
		}
		if mod(p, factor*value) != less || (value == 0) != (less == 0) {
			t.Errorf("ParabolaOf(%d, %d, %v, %v) = %v: at %v the quadrances differ by %d", p, colour, focus, l, k, a, less)
		}
	}
	kind, code1 := impl.KindOf(p, k)
	determinant, code2 := impl.DeterminantOf(p, k)
	if kind != 0 || (determinant == 0) != on(p, focus, l) || code1 != impl.ErrNone || code2 != impl.ErrNone {
		t.Errorf("ParabolaOf(%d, %d, %v, %v) = %v has the kind %d and the determinant %d", p, colour, focus, l, k, kind, determinant)
	}
	checkPointsOfParabola(t, p, colour, focus, l, k)
}

// checkPointsOfParabola holds the points that the program tells against the quadrances that it tells.
func checkPointsOfParabola(t *testing.T, p, colour int64, focus impl.Point, l impl.Line, k impl.Conic) {
	t.Helper()
	equal := pointsWhere(p, func(a impl.Point) bool {
		foot, code1 := impl.FootOf(p, colour, a, l)
		toFocus, code2 := impl.Quadrance(p, colour, a, focus)
		toLine, code3 := impl.Quadrance(p, colour, a, foot)
		if code1 != impl.ErrNone || code2 != impl.ErrNone || code3 != impl.ErrNone {
			t.Errorf("quadrances of %v for %d in %d: %d, %d, %d", a, p, colour, code1, code2, code3)
		}
		return toFocus == toLine
	})
	points, code := impl.ConicPoints(p, k)
	if !slices.Equal(points, equal) || len(points) != int(p) || code != impl.ErrNone {
		t.Errorf("ParabolaOf(%d, %d, %v, %v) = %v has %v, %d, but equal quadrances have %v", p, colour, focus, l, k, points, code, equal)
	}
	if !on(p, focus, l) {
		return
	}
	m, code := impl.PerpendicularThrough(p, colour, l, focus)
	if !slices.Equal(points, pointsOfLine(p, m)) || k != pairOfLines(p, m, m) || code != impl.ErrNone {
		t.Errorf("ParabolaOf(%d, %d, %v, %v) = %v has %v, want those of %v, %d", p, colour, focus, l, k, points, m, code)
	}
}

func TestPointsOfParabolasHaveEqualQuadrances(t *testing.T) {
	inColours(func(p, in int64) {
		lines, foci := everyLine(p), everyPoint(p)
		if p > 5 {
			lines, foci = append(thinned(twoOfEachSlope(p), 9), impl.Line{0, 1, 2}, impl.Line{1, 0, 3}), scattered(p, 4)
			lines = append(lines, nullAmong(p, in, twoOfEachSlope(p))...)
		}
		for _, l := range lines {
			row := pointsOfLine(p, l)
			if isNull(p, in, l) {
				for _, a := range append(thinned(foci, 4), row[0], row[2]) {
					wantCode(t, sampleOf("ParabolaOf", impl.ParabolaOf), p, []any{colour(in), a, l}, impl.ErrState)
				}
				continue
			}
			feet := feetIn(p, in, l)
			for _, a := range append(slices.Clone(foci), row[0], row[len(row)-2]) {
				checkParabola(t, p, in, a, l, feet)
			}
		}
	})
}

func TestNoParabolasOfNullLines(t *testing.T) {
	inColours(func(p, in int64) {
		null := nullAmong(p, in, twoOfEachSlope(p))
		if hasNullLines(p, in) != (len(null) == 4) {
			t.Errorf("null lines for %d in %d: %v", p, in, null)
		}
		for _, l := range null {
			for c := range p {
				for _, a := range append(scattered(p, 4), impl.Point{1, 2}) {
					wantCode(t, sampleOf("ParabolaOf", impl.ParabolaOf), p, []any{colour(in), a, impl.Line{l[0], l[1], c}}, impl.ErrState)
				}
			}
		}
	})
	for _, p := range fields {
		for c := range p {
			for _, a := range everyPoint(p)[:2*p] {
				wantCode(t, sampleOf("ParabolaOf", impl.ParabolaOf), p, []any{colour(2), a, impl.Line{1, 0, c}}, impl.ErrState)
			}
		}
	}
}

func TestConicListsAreNew(t *testing.T) {
	k, want := impl.Conic{1, 0, 4, 0, 0, 4}, []impl.Point{{0, 2}, {0, 3}, {1, 0}, {4, 0}}
	points, code := impl.ConicPoints(5, k)
	for range 2 {
		other, otherCode := impl.ConicPoints(5, k)
		if !slices.Equal(other, want) || otherCode != impl.ErrNone {
			t.Errorf("ConicPoints = %v, %d", other, otherCode)
		}
		clear(other[:cap(other)])
	}
	if !slices.Equal(points, want) || code != impl.ErrNone {
		t.Errorf("two results share memory: %v, %d", points, code)
	}
}

// Lists stay as they are, and so does what lies behind them in the same memory.
func TestConicArgumentsAreKept(t *testing.T) {
	for _, p := range fields {
		for _, numbers := range [][]int64{{2, 1, 0, 1, 2, 2, 1, 2}, {0, 0, 2, 1, 1, 1, 0, 1}, {0, 0, 0, 1, 0, 2, 1, 1}, {2, 0, p, 0, 0, 0, 1, 2}} {
			for n := range len(numbers) {
				list := slices.Clone(numbers)
				impl.ConicOf(p, list[:n])
				if !slices.Equal(list, numbers) {
					t.Errorf("ConicOf(%d, %v) leaves %v", p, numbers[:n], list)
				}
			}
		}
		for _, points := range fives(p) {
			memory := append(slices.Clone(points), impl.Point{1, 2}, impl.Point{2, 1})
			kept := slices.Clone(memory)
			for n := range len(memory) {
				impl.ConicThrough(p, memory[:n])
			}
			if !slices.Equal(memory, kept) {
				t.Errorf("ConicThrough(%d, %v) leaves %v", p, kept[:5], memory)
			}
		}
	}
}

func TestLayer8Examples(t *testing.T) {
	if k, code := impl.ParabolaOf(7, 0, impl.Point{0, 1}, impl.Line{0, 1, 1}); k != (impl.Conic{1, 0, 0, 0, 3, 0}) || code != impl.ErrNone {
		t.Errorf("ParabolaOf = %v, %d", k, code)
	}
	// The numbers below are worked out by hand.
	if k, code := impl.ConicOf(11, []int64{0, 4, 8, 1, 0, 2}); k != (impl.Conic{0, 1, 2, 3, 0, 6}) || code != impl.ErrNone {
		t.Errorf("ConicOf = %v, %d", k, code)
	}
	k := impl.Conic{0, 1, 0, 0, 0, 5}
	pole, code1 := impl.PoleOf(11, k, impl.Line{1, 2, 3})
	polar, code2 := impl.PolarOf(11, k, impl.Point{4, 2})
	if pole != (impl.Point{3, 7}) || polar != (impl.Line{1, 2, 5}) || code1 != impl.ErrNone || code2 != impl.ErrNone {
		t.Errorf("PoleOf = %v, %d, PolarOf = %v, %d", pole, code1, polar, code2)
	}
	tangent, code := impl.TangentOf(11, k, impl.Point{2, 3})
	if tangent != (impl.Line{1, 8, 7}) || code != impl.ErrNone {
		t.Errorf("TangentOf = %v, %d", tangent, code)
	}
	points := []impl.Point{{1, 1}, {2, 4}, {3, 9}, {0, 0}, {12, 1}}
	if k, code := impl.ConicThrough(13, points); k != (impl.Conic{1, 0, 0, 0, 12, 0}) || code != impl.ErrNone {
		t.Errorf("ConicThrough = %v, %d", k, code)
	}
}
