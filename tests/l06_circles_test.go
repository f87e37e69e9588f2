package tests

import (
	"slices"
	"testing"

	"loop.example/g01370/impl"
)

func circle(x, y, q int64) impl.Circle {
	return impl.Circle{Centre: impl.Point{x, y}, Quadrance: q}
}

func powerIn(p, colour int64, k impl.Circle, a impl.Point) int64 {
	return mod(p, quadranceIn(p, colour, k.Centre, a)-k.Quadrance)
}

// pointsWhere keeps the points of the plane, in order, for which something holds.
func pointsWhere(p int64, holds func(a impl.Point) bool) []impl.Point {
	return slices.DeleteFunc(everyPoint(p), func(a impl.Point) bool { return !holds(a) })
}

func circlePoints(p, colour int64, k impl.Circle) []impl.Point {
	return pointsWhere(p, func(a impl.Point) bool { return powerIn(p, colour, k, a) == 0 })
}

// quadrancesFor returns all numbers of a small prime, and 0, 1, p - 1 and some others of a larger one.
func quadrancesFor(p int64) []int64 {
	list := []int64{0, 1, p - 1}
	for q := int64(2); q < p-1; q += max(1, p/6) {
		list = append(list, q)
	}
	return list
}

// inCircles calls check with circles of each prime in each colour: with all of them for 3, and for
// the others with some Centres and Quadrances, 0 among these.
func inCircles(check func(p, colour int64, k impl.Circle)) {
	inColours(func(p, colour int64) {
		centres := scattered(p, 3)
		if p == 3 {
			centres = everyPoint(p)
		}
		for _, centre := range centres {
			for _, q := range quadrancesFor(p) {
				check(p, colour, impl.Circle{Centre: centre, Quadrance: q})
			}
		}
	})
}

// inPairs calls check with two circles; their Centres are also equal, or on a null line.
func inPairs(check func(p, colour int64, k, m impl.Circle)) {
	inColours(func(p, colour int64) {
		first := impl.Point{1, 2}
		centres := append(scattered(p, 4), first)
		if p <= 5 {
			centres = everyPoint(p)
		}
		for _, l := range nullAmong(p, colour, twoOfEachSlope(p)) {
			if on(p, first, impl.Line{l[0], l[1], mod(p, -l[0]*first[0]-l[1]*first[1])}) {
				d := turned(p, l)
				centres = append(centres, impl.Point{mod(p, first[0]+d[0]), mod(p, first[1]+d[1])})
			}
		}
		for _, centre := range centres {
			for _, q := range quadrancesFor(p) {
				for _, r := range thinned(quadrancesFor(p), 4) {
					k, m := impl.Circle{Centre: first, Quadrance: q}, impl.Circle{Centre: centre, Quadrance: r}
					check(p, colour, k, m)
					check(p, colour, m, k)
				}
			}
		}
	})
}

// inThrees calls check with three circles with Centres that are a triangle or not.
func inThrees(check func(p, colour int64, k, m, n impl.Circle)) {
	cornered(func(p, colour int64, a, b, c impl.Point) {
		check(p, colour, impl.Circle{Centre: a, Quadrance: mod(p, a[0]+b[1]+1)},
			impl.Circle{Centre: b, Quadrance: mod(p, b[0]*2+c[1])}, impl.Circle{Centre: c, Quadrance: mod(p, c[0]*c[1]-a[1])})
	})
}

// callsOfOne has each function that takes a circle and a point or a line.
func callsOfOne(c colour, k impl.Circle, a impl.Point, l impl.Line) []sample {
	return []sample{
		sampleOf("PowerOf", impl.PowerOf, c, k, a), sampleOf("MeetLine", impl.MeetLine, c, k, l),
		sampleOf("TangentAt", impl.TangentAt, c, k, a), sampleOf("TangentsFrom", impl.TangentsFrom, c, k, a),
		sampleOf("InversePoint", impl.InversePoint, c, k, a),
	}
}

// callsOfThree has each function that takes the points of a triangle.
func callsOfThree(c colour, three [3]impl.Point, d impl.Point) []sample {
	return []sample{
		sampleOf("CircleThrough", impl.CircleThrough, c, three[0], three[1], three[2]),
		sampleOf("AreCyclic", impl.AreCyclic, c, three[0], three[1], three[2], d),
	}
}

// circleSamples has each function of the layer but IsCircle, with arguments that have a result and
// with those for which it returns ErrState.
func circleSamples() []sample {
	o, a, b, d := impl.Point{0, 0}, impl.Point{1, 0}, impl.Point{1, 1}, impl.Point{2, 0}
	k, m, n := circle(0, 0, 1), circle(0, 0, 0), circle(1, 0, 2)
	var list []sample
	for _, c := range []colour{0, 1, 2} {
		for _, at := range []impl.Point{o, a, b} {
			list = append(list, callsOfOne(c, k, at, impl.Line{1, 1, 0})...)
			list = append(list, callsOfOne(c, m, at, impl.Line{0, 1, 2})...)
		}
		for _, two := range [][2]impl.Circle{{k, n}, {k, m}, {k, k}} {
			list = append(list, sampleOf("MeetCircles", impl.MeetCircles, c, two[0], two[1]), sampleOf("RadicalLine", impl.RadicalLine, c, two[0], two[1]))
		}
		for _, three := range [][3]impl.Circle{{k, n, circle(1, 2, 2)}, {k, n, circle(2, 0, 1)}, {k, n, k}, {k, m, k}, {k, k, k}} {
			list = append(list, sampleOf("RadicalCentre", impl.RadicalCentre, c, three[0], three[1], three[2]))
		}
		for _, three := range [][3]impl.Point{{o, a, b}, {a, o, d}, {o, a, a}, {a, a, a}} {
			list = append(list, callsOfThree(c, three, impl.Point{1, 2})...)
			list = append(list, callsOfThree(c, three, three[0])...)
		}
	}
	return list
}

func TestCirclesInvalidFirst(t *testing.T) {
	checkInvalidFirst(t, append(circleSamples(), sampleOf("IsCircle", impl.IsCircle, circle(0, 0, 1)), sampleOf("IsCircle", impl.IsCircle, circle(1, 2, 0))))
}

func TestCirclesRangeSecond(t *testing.T) { checkRangeSecond(t, circleSamples()) }

// What is no circle is the answer false, beside ErrNone.
func TestIsCircle(t *testing.T) {
	for _, p := range fields {
		for _, a := range everyPoint(p) {
			for _, q := range quadrancesFor(p) {
				k := impl.Circle{Centre: a, Quadrance: q}
				if yes, code := impl.IsCircle(p, k); !yes || code != impl.ErrNone {
					t.Errorf("IsCircle(%d, %v) = %v, %d", p, k, yes, code)
				}
			}
		}
		for _, bad := range outOfRange(p, impl.Circle{}) {
			if yes, code := impl.IsCircle(p, bad.(impl.Circle)); yes || code != impl.ErrNone {
				t.Errorf("IsCircle(%d, %v) = %v, %d", p, bad, yes, code)
			}
		}
	}
}

func TestPowers(t *testing.T) {
	inCircles(func(p, colour int64, k impl.Circle) {
		var zeros []impl.Point
		for _, a := range everyPoint(p) {
			power, code := impl.PowerOf(p, colour, k, a)
			if power != powerIn(p, colour, k, a) || code != impl.ErrNone {
				t.Errorf("PowerOf(%d, %d, %v, %v) = %d, %d", p, colour, k, a, power, code)
			}
			if q, code := impl.Quadrance(p, colour, k.Centre, a); mod(p, power+k.Quadrance) != q || code != impl.ErrNone {
				t.Errorf("PowerOf(%d, %d, %v, %v) = %d, but Quadrance is %d, %d", p, colour, k, a, power, q, code)
			}
			if power == 0 {
				zeros = append(zeros, a)
			}
		}
		if list, code := impl.PointsAt(p, colour, k.Centre, k.Quadrance); !slices.Equal(list, zeros) || code != impl.ErrNone {
			t.Errorf("points of %v for %d in %d: %v, %d, but %v have the power 0", k, p, colour, list, code, zeros)
		}
	})
}

func TestCircleThrough(t *testing.T) {
	triangles(func(p, colour int64, a, b, c impl.Point) {
		k, code := impl.CircleThrough(p, colour, a, b, c)
		if code != impl.ErrNone {
			t.Errorf("CircleThrough(%d, %d, %v, %v, %v): code %d", p, colour, a, b, c, code)
		}
		o, code1 := impl.CircumcentreOf(p, colour, a, b, c)
		q, code2 := impl.CircumquadranceOf(p, colour, a, b, c)
		if k.Centre != o || k.Quadrance != q || code1 != impl.ErrNone || code2 != impl.ErrNone {
			t.Errorf("CircleThrough(%d, %d, %v, %v, %v) = %v, want %v and %d", p, colour, a, b, c, k, o, q)
		}
		if yes, code := impl.IsCircle(p, k); !yes || code != impl.ErrNone {
			t.Errorf("CircleThrough(%d, %d, %v, %v, %v) = %v is no circle", p, colour, a, b, c, k)
		}
		for _, corner := range []impl.Point{a, b, c} {
			if power, code := impl.PowerOf(p, colour, k, corner); power != 0 || powerIn(p, colour, k, corner) != 0 || code != impl.ErrNone {
				t.Errorf("CircleThrough(%d, %d, %v, %v, %v) = %v: %v has the power %d, %d", p, colour, a, b, c, k, corner, power, code)
			}
		}
		if again, code := impl.CircleThrough(p, colour, c, a, b); again != k || code != impl.ErrNone {
			t.Errorf("CircleThrough(%d, %d, %v, %v, %v) = %v, but in another order %v, %d", p, colour, a, b, c, k, again, code)
		}
	})
}

// Circles through points that are found by their Centre and Quadrance are these circles.
func TestCircleThroughPointsOfACircle(t *testing.T) {
	inCircles(func(p, colour int64, k impl.Circle) {
		points := circlePoints(p, colour, k)
		some := thinned(points, 6)
		for i, a := range some {
			b, c := some[(i+1)%len(some)], some[(i+3)%len(some)]
			if !isTriangle(p, a, b, c) {
				continue
			}
			if got, code := impl.CircleThrough(p, colour, a, b, c); got != k || code != impl.ErrNone {
				t.Errorf("CircleThrough(%d, %d, %v, %v, %v) = %v, %d, want %v", p, colour, a, b, c, got, code, k)
			}
			for _, d := range points {
				if yes, code := impl.AreCyclic(p, colour, a, b, c, d); !yes || code != impl.ErrNone {
					t.Errorf("AreCyclic(%d, %d, %v, %v, %v, %v) = %v, %d", p, colour, a, b, c, d, yes, code)
				}
			}
		}
	})
}

func TestNoCirclesThroughPointsOfALine(t *testing.T) {
	cornered(func(p, in int64, a, b, c impl.Point) {
		if isTriangle(p, a, b, c) {
			return
		}
		for _, d := range []impl.Point{a, b, {1, 2}} {
			for _, s := range callsOfThree(colour(in), [3]impl.Point{a, b, c}, d) {
				wantCode(t, s, p, s.args, impl.ErrState)
			}
		}
	})
	inColours(func(p, in int64) {
		for _, l := range append(thinned(twoOfEachSlope(p), 5), nullAmong(p, in, twoOfEachSlope(p))...) {
			row := pointsOfLine(p, l)
			for i, a := range row {
				three := [3]impl.Point{a, row[0], row[(i+1)%len(row)]}
				for _, s := range append(callsOfThree(colour(in), three, row[1]), callsOfThree(colour(in), three, impl.Point{2, 1})...) {
					wantCode(t, s, p, s.args, impl.ErrState)
				}
			}
		}
	})
}

// cyclicIn tells without a Centre whether four points are on a circle: seen from the last one, the
// quadrances and both numbers of the others have the determinant 0.
func cyclicIn(p, colour int64, a, b, c, d impl.Point) bool {
	sum := int64(0)
	for _, at := range turnsOf(minus(p, a, d), minus(p, b, d), minus(p, c, d)) {
		sum += productIn(p, colour, at[0], at[0]) * mod(p, at[1][0]*at[2][1]-at[1][1]*at[2][0])
	}
	return mod(p, sum) == 0
}

func TestCyclicPoints(t *testing.T) {
	answers := map[[3]int64]int{}
	triangles(func(p, colour int64, a, b, c impl.Point) {
		k, _ := impl.CircleThrough(p, colour, a, b, c)
		for _, d := range append(scattered(p, 3), a, b, c) {
			want := cyclicIn(p, colour, a, b, c, d)
			yes, code := impl.AreCyclic(p, colour, a, b, c, d)
			if yes != want || code != impl.ErrNone {
				t.Errorf("AreCyclic(%d, %d, %v, %v, %v, %v) = %v, %d, want %v", p, colour, a, b, c, d, yes, code, want)
			}
			if power, code := impl.PowerOf(p, colour, k, d); (power == 0) != yes || code != impl.ErrNone {
				t.Errorf("AreCyclic(%d, %d, %v, %v, %v, %v) = %v, but the power is %d, %d", p, colour, a, b, c, d, yes, power, code)
			}
			if one := d == a || d == b || d == c; one && !yes {
				t.Errorf("AreCyclic(%d, %d, %v, %v, %v, %v) is false for one of the three", p, colour, a, b, c, d)
			} else if !one && yes {
				answers[[3]int64{p, colour, 1}]++
			} else if !one {
				answers[[3]int64{p, colour, 0}]++
			}
		}
	})
	inColours(func(p, c int64) {
		if answers[[3]int64{p, c, 1}] == 0 || answers[[3]int64{p, c, 0}] == 0 {
			t.Errorf("for %d in %d: %d points on circles, %d not", p, c, answers[[3]int64{p, c, 1}], answers[[3]int64{p, c, 0}])
		}
	})
}

// meetKind tells how many points there are, with 3 for more than two.
func meetKind(points []impl.Point) int64 {
	return int64(min(len(points), 3))
}

// checkMeetKinds expects meets of all kinds, those of more than two points just where there are null
// lines.
func checkMeetKinds(t *testing.T, kinds map[[3]int64]int) {
	t.Helper()
	inColours(func(p, c int64) {
		for kind := range int64(4) {
			count := kinds[[3]int64{p, c, kind}]
			if want := kind < 3 || hasNullLines(p, c); want != (count > 0) {
				t.Errorf("%d meets of the kind %d for %d in %d", count, kind, p, c)
			}
		}
	})
}

func checkMeetLine(t *testing.T, p, colour int64, k impl.Circle, l impl.Line) int64 {
	t.Helper()
	want := pointsWhere(p, func(a impl.Point) bool { return on(p, a, l) && powerIn(p, colour, k, a) == 0 })
	list, code := impl.MeetLine(p, colour, k, l)
	if !slices.Equal(list, want) || code != impl.ErrNone {
		t.Errorf("MeetLine(%d, %d, %v, %v) = %v, %d, want %v", p, colour, k, l, list, code, want)
	}
	if !isNull(p, colour, l) {
		if len(list) > 2 {
			t.Errorf("MeetLine(%d, %d, %v, %v) = %v: more than two points", p, colour, k, l, list)
		}
		return meetKind(list)
	}
	count := 1
	if on(p, k.Centre, l) {
		count = 0
		if k.Quadrance == 0 {
			count = int(p)
		}
	}
	if len(list) != count {
		t.Errorf("MeetLine(%d, %d, %v, %v) = %v: want %d points of a null line", p, colour, k, l, list, count)
	}
	return meetKind(list)
}

func TestMeetsWithLines(t *testing.T) {
	kinds := map[[3]int64]int{}
	inCircles(func(p, colour int64, k impl.Circle) {
		lines := append(twoOfEachSlope(p), linesThrough(p, k.Centre)...)
		if p > 11 {
			lines = append(thinned(lines, 16), nullAmong(p, colour, lines)...)
		}
		for _, l := range lines {
			kinds[[3]int64{p, colour, checkMeetLine(t, p, colour, k, l)}]++
		}
	})
	checkMeetKinds(t, kinds)
}

func checkMeetCircles(t *testing.T, p, colour int64, k, m impl.Circle) []impl.Point {
	t.Helper()
	want := pointsWhere(p, func(a impl.Point) bool { return powerIn(p, colour, k, a) == 0 && powerIn(p, colour, m, a) == 0 })
	list, code := impl.MeetCircles(p, colour, k, m)
	if !slices.Equal(list, want) || code != impl.ErrNone {
		t.Errorf("MeetCircles(%d, %d, %v, %v) = %v, %d, want %v", p, colour, k, m, list, code, want)
	}
	return list
}

func TestMeetsOfCircles(t *testing.T) {
	kinds := map[[3]int64]int{}
	inPairs(func(p, colour int64, k, m impl.Circle) {
		list := checkMeetCircles(t, p, colour, k, m)
		if k.Centre == m.Centre {
			return
		}
		kinds[[3]int64{p, colour, meetKind(list)}]++
		l, code := impl.RadicalLine(p, colour, k, m)
		if points, meetCode := impl.MeetLine(p, colour, k, l); !slices.Equal(points, list) || code != impl.ErrNone || meetCode != impl.ErrNone {
			t.Errorf("MeetCircles(%d, %d, %v, %v) = %v, but the radical line has %v, %d", p, colour, k, m, list, points, meetCode)
		}
	})
	checkMeetKinds(t, kinds)
}

func TestMeetsOfCirclesWithTheSameCentre(t *testing.T) {
	inCircles(func(p, colour int64, k impl.Circle) {
		points, pointsCode := impl.PointsAt(p, colour, k.Centre, k.Quadrance)
		if same := checkMeetCircles(t, p, colour, k, k); !slices.Equal(same, points) || pointsCode != impl.ErrNone {
			t.Errorf("MeetCircles(%d, %d, %v) with itself = %v, want %v", p, colour, k, same, points)
		}
		for _, q := range quadrancesFor(p) {
			m := impl.Circle{Centre: k.Centre, Quadrance: q}
			if list, code := impl.MeetCircles(p, colour, k, m); q != k.Quadrance && len(list) != 0 || code != impl.ErrNone {
				t.Errorf("MeetCircles(%d, %d, %v, %v) = %v, %d", p, colour, k, m, list, code)
			}
		}
	})
}

// checkTangentAt expects the line through a that is perpendicular to the way from the Centre.
func checkTangentAt(t *testing.T, p, colour int64, k impl.Circle, a impl.Point) {
	t.Helper()
	l, code := impl.TangentAt(p, colour, k, a)
	if code != impl.ErrNone || !isLine(p, l) || !on(p, a, l) || productIn(p, colour, turned(p, l), minus(p, a, k.Centre)) != 0 {
		t.Errorf("TangentAt(%d, %d, %v, %v) = %v, %d", p, colour, k, a, l, code)
	}
	way, wayCode := impl.LineThrough(p, k.Centre, a)
	want, wantCode := impl.PerpendicularThrough(p, colour, way, a)
	if l != want || wayCode != impl.ErrNone || wantCode != impl.ErrNone {
		t.Errorf("TangentAt(%d, %d, %v, %v) = %v, but PerpendicularThrough is %v", p, colour, k, a, l, want)
	}
	meets := []impl.Point{a}
	if k.Quadrance == 0 {
		meets = pointsOfLine(p, l)
	}
	if list, code := impl.MeetLine(p, colour, k, l); !slices.Equal(list, meets) || code != impl.ErrNone {
		t.Errorf("TangentAt(%d, %d, %v, %v) = %v meets the circle in %v, %d, want %v", p, colour, k, a, l, list, code, meets)
	}
	if (k.Quadrance == 0) != (l == way) || (k.Quadrance == 0) != isNull(p, colour, l) {
		t.Errorf("TangentAt(%d, %d, %v, %v) = %v, and the line from the Centre is %v", p, colour, k, a, l, way)
	}
}

func TestTangentsAtPoints(t *testing.T) {
	inCircles(func(p, in int64, k impl.Circle) {
		for _, a := range everyPoint(p) {
			if powerIn(p, in, k, a) == 0 && a != k.Centre {
				checkTangentAt(t, p, in, k, a)
				continue
			}
			wantCode(t, sampleOf("TangentAt", impl.TangentAt), p, []any{colour(in), k, a}, impl.ErrState)
		}
	})
}

// A circle with the Quadrance 0 has its Centre, but no tangent there, also where it has other points.
func TestNoTangentsAtCentres(t *testing.T) {
	inColours(func(p, in int64) {
		for _, a := range thinned(everyPoint(p), 40) {
			k := impl.Circle{Centre: a, Quadrance: 0}
			if power, code := impl.PowerOf(p, in, k, a); power != 0 || code != impl.ErrNone {
				t.Errorf("PowerOf(%d, %d, %v, %v) = %d, %d", p, in, k, a, power, code)
			}
			wantCode(t, sampleOf("TangentAt", impl.TangentAt), p, []any{colour(in), k, a}, impl.ErrState)
		}
	})
}

// tangentsIn finds tangents without the points at which they are: those of a circle with the
// Quadrance 0 are the null lines through its Centre, those of another one are the lines that are not
// null and meet it in just one point.
func tangentsIn(p, colour int64, k impl.Circle) []impl.Line {
	counts := map[impl.Line]int{}
	for _, b := range circlePoints(p, colour, k) {
		for _, l := range linesThrough(p, b) {
			counts[l]++
		}
	}
	return slices.DeleteFunc(everyLine(p), func(l impl.Line) bool {
		if k.Quadrance == 0 {
			return !isNull(p, colour, l) || !on(p, k.Centre, l)
		}
		return isNull(p, colour, l) || counts[l] != 1
	})
}

// tangentCount tells how many tangents have a point, for a circle with the Quadrance 0 from where
// the point is, for another one from the power.
func tangentCount(p, colour int64, k impl.Circle, a impl.Point) int {
	q := quadranceIn(p, colour, k.Centre, a)
	switch {
	case k.Quadrance == 0 && a == k.Centre && hasNullLines(p, colour):
		return 2
	case a == k.Centre || k.Quadrance == 0 && q != 0:
		return 0
	case q == 0:
		return 1
	}
	n := k.Quadrance * powerIn(p, colour, k, a)
	if colour != 0 {
		n = -n
	}
	switch {
	case mod(p, n) == 0:
		return 1
	case leastRoot(p, mod(p, n)) >= 0:
		return 2
	}
	return 0
}

func checkTangentsFrom(t *testing.T, p, colour int64, k impl.Circle, a impl.Point, tangents []impl.Line) {
	t.Helper()
	want := slices.DeleteFunc(slices.Clone(tangents), func(l impl.Line) bool { return !on(p, a, l) })
	list, code := impl.TangentsFrom(p, colour, k, a)
	if !slices.Equal(list, want) || len(list) != tangentCount(p, colour, k, a) || code != impl.ErrNone {
		t.Errorf("TangentsFrom(%d, %d, %v, %v) = %v, %d, want %v, which are %d", p, colour, k, a, list, code, want, tangentCount(p, colour, k, a))
	}
	if at, code := impl.TangentAt(p, colour, k, a); code == impl.ErrNone && (len(list) != 1 || list[0] != at) {
		t.Errorf("TangentsFrom(%d, %d, %v, %v) = %v, but TangentAt is %v", p, colour, k, a, list, at)
	}
}

func TestTangentsFromPoints(t *testing.T) {
	counts := map[[3]int64]int{}
	inCircles(func(p, colour int64, k impl.Circle) {
		tangents := tangentsIn(p, colour, k)
		some := append(scattered(p, 14), k.Centre)
		some = append(some, thinned(circlePoints(p, colour, k), 3)...)
		some = append(some, thinned(circlePoints(p, colour, impl.Circle{Centre: k.Centre}), 3)...)
		for _, a := range some {
			checkTangentsFrom(t, p, colour, k, a, tangents)
			counts[[3]int64{p, colour, int64(tangentCount(p, colour, k, a))}]++
		}
	})
	inColours(func(p, c int64) {
		for n := range int64(3) {
			if counts[[3]int64{p, c, n}] == 0 {
				t.Errorf("no points with %d tangents for %d in %d", n, p, c)
			}
		}
	})
}

// With all tangents at points of a circle, each once although a null line is that of many points.
func TestTangentsAreThoseAtPoints(t *testing.T) {
	inCircles(func(p, colour int64, k impl.Circle) {
		if p > 7 {
			return
		}
		var tangents []impl.Line
		for _, b := range circlePoints(p, colour, k) {
			if l, code := impl.TangentAt(p, colour, k, b); code == impl.ErrNone && !slices.Contains(tangents, l) {
				tangents = append(tangents, l)
			}
		}
		slices.SortFunc(tangents, func(l, m impl.Line) int { return slices.Compare(l[:], m[:]) })
		for _, a := range everyPoint(p) {
			checkTangentsFrom(t, p, colour, k, a, tangents)
		}
	})
}

func checkRadicalLine(t *testing.T, p, colour int64, k, m impl.Circle) {
	t.Helper()
	l, code := impl.RadicalLine(p, colour, k, m)
	if code != impl.ErrNone || !isLine(p, l) {
		t.Errorf("RadicalLine(%d, %d, %v, %v) = %v, %d", p, colour, k, m, l, code)
	}
	for _, a := range everyPoint(p) {
		if equal := powerIn(p, colour, k, a) == powerIn(p, colour, m, a); equal != on(p, a, l) {
			t.Errorf("RadicalLine(%d, %d, %v, %v) = %v: %v has equal powers: %v", p, colour, k, m, l, a, equal)
		}
	}
	for _, a := range pointsOfLine(p, l) {
		first, code1 := impl.PowerOf(p, colour, k, a)
		second, code2 := impl.PowerOf(p, colour, m, a)
		if first != second || code1 != impl.ErrNone || code2 != impl.ErrNone {
			t.Errorf("RadicalLine(%d, %d, %v, %v) = %v: %v has the powers %d and %d", p, colour, k, m, l, a, first, second)
		}
	}
	if yes, code := impl.ArePerpendicular(p, colour, l, sideIn(p, k.Centre, m.Centre)); !yes || code != impl.ErrNone {
		t.Errorf("RadicalLine(%d, %d, %v, %v) = %v is not perpendicular to the line of the Centres", p, colour, k, m, l)
	}
}

func TestRadicalLines(t *testing.T) {
	null := map[[2]int64]int{}
	inPairs(func(p, in int64, k, m impl.Circle) {
		if k.Centre == m.Centre {
			wantCode(t, sampleOf("RadicalLine", impl.RadicalLine), p, []any{colour(in), k, m}, impl.ErrState)
			return
		}
		checkRadicalLine(t, p, in, k, m)
		l, _ := impl.RadicalLine(p, in, k, m)
		if back, code := impl.RadicalLine(p, in, m, k); back != l || code != impl.ErrNone {
			t.Errorf("RadicalLine(%d, %d, %v, %v) = %v, but %v, %d the other way", p, in, k, m, l, back, code)
		}
		centres := sideIn(p, k.Centre, m.Centre)
		if parallel := l[0] == centres[0] && l[1] == centres[1]; parallel != isNull(p, in, centres) {
			t.Errorf("RadicalLine(%d, %d, %v, %v) = %v: parallel to the line of the Centres is %v", p, in, k, m, l, parallel)
		}
		if isNull(p, in, centres) {
			null[[2]int64{p, in}]++
		}
	})
	inColours(func(p, c int64) {
		if hasNullLines(p, c) != (null[[2]int64{p, c}] > 20) {
			t.Errorf("%d null lines of Centres for %d in %d", null[[2]int64{p, c}], p, c)
		}
	})
}

func TestNoRadicalLinesOfEqualCentres(t *testing.T) {
	inCircles(func(p, in int64, k impl.Circle) {
		for _, q := range quadrancesFor(p) {
			m := impl.Circle{Centre: k.Centre, Quadrance: q}
			wantCode(t, sampleOf("RadicalLine", impl.RadicalLine), p, []any{colour(in), k, m}, impl.ErrState)
		}
	})
}

func checkRadicalCentre(t *testing.T, p, colour int64, k, m, n impl.Circle) {
	t.Helper()
	equal := pointsWhere(p, func(a impl.Point) bool {
		power := powerIn(p, colour, k, a)
		return powerIn(p, colour, m, a) == power && powerIn(p, colour, n, a) == power
	})
	centre, code := impl.RadicalCentre(p, colour, k, m, n)
	if len(equal) != 1 || centre != equal[0] || code != impl.ErrNone {
		t.Errorf("RadicalCentre(%d, %d, %v, %v, %v) = %v, %d, want %v", p, colour, k, m, n, centre, code, equal)
	}
	want, _ := impl.PowerOf(p, colour, k, centre)
	circles := []impl.Circle{k, m, n}
	for i, other := range circles {
		if power, code := impl.PowerOf(p, colour, other, centre); power != want || code != impl.ErrNone {
			t.Errorf("RadicalCentre(%d, %d, %v, %v, %v) = %v has the power %d, %d for %v, not %d", p, colour, k, m, n, centre, power, code, other, want)
		}
		l, _ := impl.RadicalLine(p, colour, other, circles[(i+1)%3])
		if has, code := impl.IsOnLine(p, centre, l); !has || code != impl.ErrNone {
			t.Errorf("RadicalCentre(%d, %d, %v, %v, %v) = %v is not on the radical line %v", p, colour, k, m, n, centre, l)
		}
	}
}

func TestRadicalCentres(t *testing.T) {
	inThrees(func(p, in int64, k, m, n impl.Circle) {
		if isTriangle(p, k.Centre, m.Centre, n.Centre) {
			checkRadicalCentre(t, p, in, k, m, n)
			return
		}
		wantCode(t, sampleOf("RadicalCentre", impl.RadicalCentre), p, []any{colour(in), k, m, n}, impl.ErrState)
	})
}

// For Centres on one line, the radical lines may be the same, so that many points have equal powers
// for all three, or be parallel, so that none has.
func TestNoRadicalCentresOfCentresOnALine(t *testing.T) {
	inColours(func(p, in int64) {
		for _, l := range append(thinned(twoOfEachSlope(p), 6), nullAmong(p, in, twoOfEachSlope(p))...) {
			row := pointsOfLine(p, l)
			a, b, c := row[0], row[1], row[2]
			far := impl.Point{1, 2}
			for _, three := range [][3]impl.Circle{
				{{Centre: a}, {Centre: b}, {Centre: c}},
				{{Centre: a, Quadrance: 1}, {Centre: b}, {Centre: c, Quadrance: 2}},
				{{Centre: a, Quadrance: quadranceIn(p, in, a, far)}, {Centre: b, Quadrance: quadranceIn(p, in, b, far)}, {Centre: c, Quadrance: quadranceIn(p, in, c, far)}},
				{{Centre: a}, {Centre: a}, {Centre: c}}, {{Centre: a, Quadrance: 1}, {Centre: b}, {Centre: a, Quadrance: 2}},
				{{Centre: b}, {Centre: a}, {Centre: a, Quadrance: 1}}, {{Centre: a}, {Centre: a}, {Centre: a}},
				{{Centre: a}, {Centre: a, Quadrance: 1}, {Centre: a, Quadrance: 2}},
			} {
				wantCode(t, sampleOf("RadicalCentre", impl.RadicalCentre), p, []any{colour(in), three[0], three[1], three[2]}, impl.ErrState)
			}
		}
	})
}

// checkInverse expects the only point on the line of the Centre and a for which the product of the
// ways to both is the Quadrance.
func checkInverse(t *testing.T, p, colour int64, k impl.Circle, a impl.Point) {
	t.Helper()
	var found []impl.Point
	for _, b := range pointsOfLine(p, sideIn(p, k.Centre, a)) {
		if productIn(p, colour, minus(p, a, k.Centre), minus(p, b, k.Centre)) == k.Quadrance {
			found = append(found, b)
		}
	}
	inverse, code := impl.InversePoint(p, colour, k, a)
	if len(found) != 1 || inverse != found[0] || code != impl.ErrNone {
		t.Errorf("InversePoint(%d, %d, %v, %v) = %v, %d, want %v", p, colour, k, a, inverse, code, found)
	}
	q, _ := impl.Quadrance(p, colour, k.Centre, a)
	if c, code := impl.CombinationOf(p, k.Centre, a, quotientIn(p, k.Quadrance, q)); c != inverse || code != impl.ErrNone {
		t.Errorf("InversePoint(%d, %d, %v, %v) = %v, but the combination is %v, %d", p, colour, k, a, inverse, c, code)
	}
	if k.Quadrance == 0 {
		if inverse != k.Centre {
			t.Errorf("InversePoint(%d, %d, %v, %v) = %v is not the Centre", p, colour, k, a, inverse)
		}
		return
	}
	if back, code := impl.InversePoint(p, colour, k, inverse); back != a || code != impl.ErrNone {
		t.Errorf("InversePoint(%d, %d, %v, %v) = %v, of which the inverse is %v, %d", p, colour, k, a, inverse, back, code)
	}
	if isOn := powerIn(p, colour, k, a) == 0; isOn != (inverse == a) {
		t.Errorf("InversePoint(%d, %d, %v, %v) = %v: the point is on the circle: %v", p, colour, k, a, inverse, isOn)
	}
}

func TestInversePoints(t *testing.T) {
	inCircles(func(p, in int64, k impl.Circle) {
		some := append(scattered(p, 12), k.Centre)
		some = append(some, thinned(circlePoints(p, in, k), 3)...)
		some = append(some, circlePoints(p, in, impl.Circle{Centre: k.Centre})...)
		for _, a := range some {
			if quadranceIn(p, in, k.Centre, a) != 0 {
				checkInverse(t, p, in, k, a)
				continue
			}
			wantCode(t, sampleOf("InversePoint", impl.InversePoint), p, []any{colour(in), k, a}, impl.ErrState)
		}
	})
}

func TestCircleListsAreNew(t *testing.T) {
	k, m, a := circle(0, 0, 1), circle(2, 0, 5), impl.Point{2, 0}
	lists := func() (line, both []impl.Point, tangents []impl.Line) {
		line, _ = impl.MeetLine(11, 0, k, impl.Line{1, 1, 10})
		both, _ = impl.MeetCircles(11, 0, k, m)
		tangents, _ = impl.TangentsFrom(11, 0, k, a)
		return line, both, tangents
	}
	wantLine, wantBoth, wantTangents := []impl.Point{{0, 1}, {1, 0}}, []impl.Point{{0, 1}, {0, 10}}, []impl.Line{{1, 5, 9}, {1, 6, 9}}
	line, both, tangents := lists()
	for range 2 {
		otherLine, otherBoth, otherTangents := lists()
		if !slices.Equal(otherLine, wantLine) || !slices.Equal(otherBoth, wantBoth) || !slices.Equal(otherTangents, wantTangents) {
			t.Errorf("MeetLine = %v, MeetCircles = %v, TangentsFrom = %v", otherLine, otherBoth, otherTangents)
		}
		clear(otherLine[:cap(otherLine)])
		clear(otherBoth[:cap(otherBoth)])
		clear(otherTangents[:cap(otherTangents)])
	}
	if !slices.Equal(line, wantLine) || !slices.Equal(both, wantBoth) || !slices.Equal(tangents, wantTangents) {
		t.Errorf("two results share memory: %v, %v, %v", line, both, tangents)
	}
}

func TestLayer6Examples(t *testing.T) {
	if a, code := impl.InversePoint(7, 0, circle(0, 0, 1), impl.Point{2, 0}); a != (impl.Point{4, 0}) || code != impl.ErrNone {
		t.Errorf("InversePoint = %v, %d", a, code)
	}
	// The numbers below are worked out by hand.
	k, m := circle(0, 0, 1), circle(1, 1, 3)
	power, code1 := impl.PowerOf(7, 1, m, impl.Point{4, 0})
	l, code2 := impl.RadicalLine(7, 0, k, m)
	if power != 5 || code1 != impl.ErrNone || l != (impl.Line{1, 1, 0}) || code2 != impl.ErrNone {
		t.Errorf("PowerOf = %d, %d, RadicalLine = %v, %d", power, code1, l, code2)
	}
	points, code1 := impl.MeetLine(7, 2, circle(0, 0, 2), impl.Line{1, 6, 0})
	tangent, code2 := impl.TangentAt(7, 2, circle(0, 0, 2), impl.Point{1, 1})
	if !slices.Equal(points, []impl.Point{{1, 1}, {6, 6}}) || code1 != impl.ErrNone || tangent != (impl.Line{1, 1, 5}) || code2 != impl.ErrNone {
		t.Errorf("MeetLine = %v, %d, TangentAt = %v, %d", points, code1, tangent, code2)
	}
}
