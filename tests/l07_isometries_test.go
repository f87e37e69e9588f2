package tests

import (
	"slices"
	"testing"

	"loop.example/g01370/impl"
)

func mapOf(a, b, c, d, u, v int64) impl.Move {
	return impl.Move{Matrix: [4]int64{a, b, c, d}, Shift: impl.Point{u, v}}
}

var unit = mapOf(1, 0, 0, 1, 0, 0)

// led says anew where a map leads a point.
func led(p int64, m impl.Move, a impl.Point) impl.Point {
	return impl.Point{
		mod(p, m.Matrix[0]*a[0]+m.Matrix[1]*a[1]+m.Shift[0]),
		mod(p, m.Matrix[2]*a[0]+m.Matrix[3]*a[1]+m.Shift[1]),
	}
}

func signIn(p int64, m impl.Move) int64 {
	return mod(p, m.Matrix[0]*m.Matrix[3]-m.Matrix[1]*m.Matrix[2])
}

// productOfTwo says anew what the product of two maps is: first m, then n.
func productOfTwo(p int64, m, n impl.Move) impl.Move {
	k, l := m.Matrix, n.Matrix
	return impl.Move{
		Matrix: [4]int64{
			mod(p, l[0]*k[0]+l[1]*k[2]), mod(p, l[0]*k[1]+l[1]*k[3]),
			mod(p, l[2]*k[0]+l[3]*k[2]), mod(p, l[2]*k[1]+l[3]*k[3]),
		},
		Shift: led(p, n, m.Shift),
	}
}

// shiftedTo returns the map with the Matrix of m that leads a to c.
func shiftedTo(p int64, m impl.Move, a, c impl.Point) impl.Move {
	m.Shift = impl.Point{}
	m.Shift = minus(p, c, led(p, m, a))
	return m
}

func keptBy(p int64, m impl.Move) []impl.Point {
	return pointsWhere(p, func(a impl.Point) bool { return led(p, m, a) == a })
}

func keepsQuadrance(p, colour int64, m impl.Move, a, b impl.Point) bool {
	return quadranceIn(p, colour, led(p, m, a), led(p, m, b)) == quadranceIn(p, colour, a, b)
}

// keepsQuadrances tells by all pairs of points, the list of which it is given, whether a map is a move.
func keepsQuadrances(p, colour int64, m impl.Move, points []impl.Point) bool {
	for i, a := range points {
		for _, b := range points[:i] {
			if !keepsQuadrance(p, colour, m, a, b) {
				return false
			}
		}
	}
	return true
}

// centredMoves finds all moves that keep 0, 0, in order, by where they lead 1, 0 and 0, 1.
// TestIsMoveForAllMaps holds the quadrances of all pairs of points against them.
func centredMoves(p, colour int64) []impl.Move {
	o, x, y := impl.Point{}, impl.Point{1, 0}, impl.Point{0, 1}
	first := pointsWhere(p, func(a impl.Point) bool { return quadranceIn(p, colour, o, a) == quadranceIn(p, colour, o, x) })
	second := pointsWhere(p, func(a impl.Point) bool { return quadranceIn(p, colour, o, a) == quadranceIn(p, colour, o, y) })
	var list []impl.Move
	for _, a := range first {
		for _, b := range second {
			if quadranceIn(p, colour, a, b) == quadranceIn(p, colour, x, y) {
				list = append(list, mapOf(a[0], b[0], a[1], b[1], 0, 0))
			}
		}
	}
	slices.SortFunc(list, func(m, n impl.Move) int { return slices.Compare(m.Matrix[:], n.Matrix[:]) })
	return list
}

// shiftsFor returns all points of a small prime, and some of a larger one. Among these are the
// points for which the map keeps some point.
func shiftsFor(p int64, m impl.Move) []impl.Point {
	if p <= 5 {
		return everyPoint(p)
	}
	a := impl.Point{1, 2}
	return append(scattered(p, 4), shiftedTo(p, m, a, a).Shift, impl.Point{p - 1, 2})
}

// inMoves calls check with moves of each prime by each colour, all of them for 3 and 5, and with all
// Matrices but only some Shifts for the larger ones.
func inMoves(check func(p, colour int64, m impl.Move)) {
	inColours(func(p, colour int64) {
		for _, m := range centredMoves(p, colour) {
			for _, m.Shift = range shiftsFor(p, m) {
				check(p, colour, m)
			}
		}
	})
}

// everyMap calls check with all Matrices of a prime, with some Shifts.
func everyMap(p int64, shifts []impl.Point, check func(m impl.Move)) {
	for _, top := range everyPoint(p) {
		for _, bottom := range everyPoint(p) {
			for _, shift := range shifts {
				check(impl.Move{Matrix: [4]int64{top[0], top[1], bottom[0], bottom[1]}, Shift: shift})
			}
		}
	}
}

// someMaps returns maps that are moves by some colour, those with one number changed, and maps that
// lead all points to one point or to one line, or keep doubled areas but no quadrances.
func someMaps(p int64) []impl.Move {
	var list []impl.Move
	for _, colour := range colours {
		for _, m := range thinned(centredMoves(p, colour), 5) {
			m.Shift = impl.Point{1, p - 2}
			list = append(list, m, shiftedTo(p, m, impl.Point{2, 1}, impl.Point{2, 1}))
			for i := range m.Matrix {
				changed := m
				changed.Matrix[i] = mod(p, m.Matrix[i]+1)
				list = append(list, changed)
			}
		}
	}
	for _, shift := range []impl.Point{{0, 0}, {1, 0}, {0, 1}, {p - 1, 2}} {
		for _, matrix := range [][4]int64{
			{0, 0, 0, 0}, {1, 0, 0, 0}, {0, 0, 0, 1}, {1, 1, 1, 1}, {0, 1, 0, 0}, {2, 1, 1, 1}, {1, 2, 2, 1},
			{1, 1, 0, 1}, {1, 0, 2, 1}, {2, 0, 0, 2}, {p - 1, 0, 0, 2}, {1, 0, 0, 1}, {p - 1, 0, 0, p - 1}, {0, 1, 1, 0},
		} {
			list = append(list, impl.Move{Matrix: matrix, Shift: shift})
		}
	}
	return list
}

// callsOfMove has each function for which a map that is no move is ErrState.
func callsOfMove(c colour, m impl.Move, l impl.Line) []sample {
	return []sample{
		sampleOf("MoveLine", impl.MoveLine, c, m, l), sampleOf("InverseMove", impl.InverseMove, c, m),
		sampleOf("KindOfMove", impl.KindOfMove, c, m), sampleOf("OrderOfMove", impl.OrderOfMove, c, m),
	}
}

// moveSamples has each function of the layer with arguments that have a result, and with those for
// which it returns ErrState.
func moveSamples() []sample {
	o, a, b, d := impl.Point{0, 0}, impl.Point{1, 0}, impl.Point{0, 1}, impl.Point{1, 1}
	swap, shear := mapOf(0, 1, 1, 0, 2, 0), mapOf(1, 1, 0, 1, 0, 2)
	list := []sample{
		sampleOf("ShiftBy", impl.ShiftBy, a), sampleOf("ShiftBy", impl.ShiftBy, o),
		sampleOf("ProductOfMoves", impl.ProductOfMoves, swap, shear), sampleOf("ProductOfMoves", impl.ProductOfMoves, shear, shear),
	}
	for _, m := range []impl.Move{unit, swap, shear, {}} {
		list = append(list, sampleOf("MovePoint", impl.MovePoint, m, a), sampleOf("FixedPoints", impl.FixedPoints, m))
	}
	for _, c := range []colour{0, 1, 2} {
		for _, m := range []impl.Move{unit, swap, shear, {}} {
			list = append(list, sampleOf("IsMove", impl.IsMove, c, m))
			list = append(list, callsOfMove(c, m, impl.Line{1, 2, 0})...)
		}
		for _, l := range []impl.Line{{1, 0, 2}, {1, 1, 0}, {0, 1, 1}, {1, 2, 0}} {
			list = append(list, sampleOf("ReflectionIn", impl.ReflectionIn, c, l))
		}
		list = append(list,
			sampleOf("TurnsAbout", impl.TurnsAbout, c, a), sampleOf("CountTurns", impl.CountTurns, c),
			sampleOf("MovesBetween", impl.MovesBetween, c, o, a, o, a), sampleOf("MovesBetween", impl.MovesBetween, c, o, d, a, b),
			sampleOf("MovesBetween", impl.MovesBetween, c, o, a, b, d), sampleOf("MovesBetween", impl.MovesBetween, c, a, a, b, b),
		)
	}
	return list
}

func TestMovesInvalidFirst(t *testing.T) { checkInvalidFirst(t, moveSamples()) }

func TestMovesRangeSecond(t *testing.T) { checkRangeSecond(t, moveSamples()) }

func wantMove(t *testing.T, p, colour int64, m impl.Move, want bool) {
	t.Helper()
	if yes, code := impl.IsMove(p, colour, m); yes != want || code != impl.ErrNone {
		t.Errorf("IsMove(%d, %d, %v) = %v, %d", p, colour, m, yes, code)
	}
}

func TestIsMoveForAllMaps(t *testing.T) {
	for p, shifts := range map[int64][]impl.Point{3: everyPoint(3), 5: scattered(5, 4), 7: {{0, 0}, {3, 6}}} {
		points := everyPoint(p)
		for _, colour := range colours {
			centred := centredMoves(p, colour)
			everyMap(p, shifts, func(m impl.Move) {
				want := keepsQuadrances(p, colour, m, points)
				wantMove(t, p, colour, m, want)
				m.Shift = impl.Point{}
				if slices.Contains(centred, m) != want {
					t.Errorf("%v keeps quadrances for %d in %d: %v", m, p, colour, want)
				}
			})
		}
	}
}

func TestIsMoveForSomeMaps(t *testing.T) {
	for _, p := range fields {
		points := everyPoint(p)
		for _, colour := range colours {
			moves := 0
			for _, m := range someMaps(p) {
				want := keepsQuadrances(p, colour, m, points[:2*p+1])
				wantMove(t, p, colour, m, want)
				if want {
					moves++
				}
			}
			if moves == 0 || moves == len(someMaps(p)) {
				t.Errorf("%d moves for %d in %d", moves, p, colour)
			}
		}
	}
}

// For 3, the moves by red and by green are the only ones that are all moves by another colour too, by
// blue: there, blue has 8 moves that keep 0, 0, and each of the others has 4.
func TestMovesByOneColourOnly(t *testing.T) {
	inColours(func(p, colour int64) {
		for _, other := range colours {
			own := 0
			theirs := centredMoves(p, other)
			for _, m := range centredMoves(p, colour) {
				both := slices.Contains(theirs, m)
				m.Shift = impl.Point{2, 1}
				wantMove(t, p, colour, m, true)
				wantMove(t, p, other, m, both)
				if !both {
					own++
				}
			}
			if none := colour == other || p == 3 && other == 0; none != (own == 0) {
				t.Errorf("%d moves for %d by %d and not by %d", own, p, colour, other)
			}
		}
	})
}

func TestMovesKeepQuadrances(t *testing.T) {
	inMoves(func(p, colour int64, m impl.Move) {
		wantMove(t, p, colour, m, true)
		some := scattered(p, 6)
		for i, a := range some {
			for _, b := range some[:i] {
				c, code1 := impl.MovePoint(p, m, a)
				d, code2 := impl.MovePoint(p, m, b)
				before, code3 := impl.Quadrance(p, colour, a, b)
				after, code4 := impl.Quadrance(p, colour, c, d)
				if before != after || code1|code2|code3|code4 != impl.ErrNone {
					t.Errorf("%v leads %v and %v with the quadrance %d in %d for %d to %v and %v with %d", m, a, b, before, colour, p, c, d, after)
				}
			}
		}
	})
}

func TestMovePoint(t *testing.T) {
	for _, p := range fields {
		for _, m := range someMaps(p) {
			for _, a := range thinned(everyPoint(p), 100) {
				if b, code := impl.MovePoint(p, m, a); b != led(p, m, a) || code != impl.ErrNone {
					t.Errorf("MovePoint(%d, %v, %v) = %v, %d", p, m, a, b, code)
				}
			}
		}
	}
}

func checkMoveLine(t *testing.T, p, colour int64, m impl.Move, l impl.Line, points []impl.Point) {
	t.Helper()
	to, code := impl.MoveLine(p, colour, m, l)
	if to != sideIn(p, led(p, m, points[0]), led(p, m, points[1])) || code != impl.ErrNone {
		t.Errorf("MoveLine(%d, %d, %v, %v) = %v, %d", p, colour, m, l, to, code)
	}
	for _, a := range points {
		b, code1 := impl.MovePoint(p, m, a)
		if yes, code2 := impl.IsOnLine(p, b, to); !yes || code1 != impl.ErrNone || code2 != impl.ErrNone {
			t.Errorf("MoveLine(%d, %d, %v, %v) = %v, on which %v is not", p, colour, m, l, to, b)
		}
	}
}

func TestMoveLine(t *testing.T) {
	rows := map[int64]map[impl.Line][]impl.Point{}
	for _, p := range fields {
		rows[p] = map[impl.Line][]impl.Point{}
		for _, l := range twoOfEachSlope(p) {
			rows[p][l] = pointsOfLine(p, l)
		}
	}
	inMoves(func(p, colour int64, m impl.Move) {
		lines := twoOfEachSlope(p)
		some := thinned(lines, 6)
		if p > 5 {
			some = append(some, nullAmong(p, colour, lines)...)
		}
		for _, l := range some {
			checkMoveLine(t, p, colour, m, l, rows[p][l])
		}
	})
}

// The points of a line and its led line are as many, and no point is led to where another one is.
func TestMovedLinesHaveJustTheMovedPoints(t *testing.T) {
	for _, p := range []int64{3, 7, 13} {
		for _, colour := range colours {
			for _, m := range thinned(centredMoves(p, colour), 8) {
				m.Shift = impl.Point{2, p - 1}
				for _, l := range everyLine(p) {
					var want []impl.Point
					for _, a := range pointsOfLine(p, l) {
						want = append(want, led(p, m, a))
					}
					slices.SortFunc(want, func(a, b impl.Point) int { return slices.Compare(a[:], b[:]) })
					to, code1 := impl.MoveLine(p, colour, m, l)
					if got, code2 := impl.PointsOn(p, to); !slices.Equal(got, want) || code1 != impl.ErrNone || code2 != impl.ErrNone {
						t.Errorf("MoveLine(%d, %d, %v, %v) = %v has %v, want %v", p, colour, m, l, to, got, want)
					}
				}
			}
		}
	}
}

// Maps that are no moves still lead points, have products and keep points.
func TestMapsThatAreNoMoves(t *testing.T) {
	inColours(func(p, in int64) {
		points, refused := everyPoint(p), 0
		for _, m := range someMaps(p) {
			if keepsQuadrances(p, in, m, points[:2*p+1]) {
				continue
			}
			refused++
			for _, l := range []impl.Line{{1, 0, 0}, {0, 1, 1}, {1, 1, 2}} {
				for _, s := range callsOfMove(colour(in), m, l) {
					wantCode(t, s, p, s.args, impl.ErrState)
				}
			}
			for _, s := range []sample{
				sampleOf("IsMove", impl.IsMove, colour(in), m), sampleOf("MovePoint", impl.MovePoint, m, points[p]),
				sampleOf("ProductOfMoves", impl.ProductOfMoves, m, m), sampleOf("FixedPoints", impl.FixedPoints, m),
			} {
				wantCode(t, s, p, s.args, impl.ErrNone)
			}
		}
		if refused < 30 {
			t.Errorf("%d maps that are no moves for %d in %d", refused, p, in)
		}
	})
}

func checkProduct(t *testing.T, p int64, m, n impl.Move) {
	t.Helper()
	product, code := impl.ProductOfMoves(p, m, n)
	if product != productOfTwo(p, m, n) || code != impl.ErrNone {
		t.Errorf("ProductOfMoves(%d, %v, %v) = %v, %d", p, m, n, product, code)
	}
	for _, a := range []impl.Point{{0, 0}, {1, 0}, {0, 1}, {p - 1, 2}} {
		if led(p, product, a) != led(p, n, led(p, m, a)) {
			t.Errorf("ProductOfMoves(%d, %v, %v) = %v leads %v to %v", p, m, n, product, a, led(p, product, a))
		}
	}
}

func TestProductsOfMoves(t *testing.T) {
	for _, p := range fields {
		list := someMaps(p)
		if p == 3 {
			everyMap(p, []impl.Point{{0, 0}, {1, 2}}, func(m impl.Move) { list = append(list, m) })
		}
		swapped := 0
		for _, m := range list {
			for _, n := range list {
				checkProduct(t, p, m, n)
				if productOfTwo(p, m, n) != productOfTwo(p, n, m) {
					swapped++
				}
			}
		}
		if swapped == 0 {
			t.Errorf("no products that depend on their order for %d", p)
		}
	}
}

func TestProductsOfMovesAreMoves(t *testing.T) {
	inColours(func(p, colour int64) {
		list := thinned(centredMoves(p, colour), 12)
		for i, m := range list {
			m.Shift = impl.Point{1, 2}
			for _, n := range list {
				n.Shift = impl.Point{int64(i) % p, 1}
				product, code := impl.ProductOfMoves(p, m, n)
				wantMove(t, p, colour, product, true)
				if signIn(p, product) != mod(p, signIn(p, m)*signIn(p, n)) || code != impl.ErrNone {
					t.Errorf("ProductOfMoves(%d, %v, %v) = %v, %d has another sign", p, m, n, product, code)
				}
			}
		}
	})
}

func TestInverseMoves(t *testing.T) {
	inMoves(func(p, colour int64, m impl.Move) {
		inverse, code := impl.InverseMove(p, colour, m)
		if productOfTwo(p, m, inverse) != unit || productOfTwo(p, inverse, m) != unit || code != impl.ErrNone {
			t.Errorf("InverseMove(%d, %d, %v) = %v, %d", p, colour, m, inverse, code)
		}
		first, code1 := impl.ProductOfMoves(p, m, inverse)
		second, code2 := impl.ProductOfMoves(p, inverse, m)
		if first != unit || second != unit || code1 != impl.ErrNone || code2 != impl.ErrNone {
			t.Errorf("InverseMove(%d, %d, %v) = %v: the products are %v and %v", p, colour, m, inverse, first, second)
		}
		wantMove(t, p, colour, inverse, true)
	})
}

// checkReflection holds the points against the line: the midpoint of a point and the one to which it
// is led is on the line, and the way between both is perpendicular to it.
func checkReflection(t *testing.T, p, colour int64, l impl.Line, m impl.Move) {
	t.Helper()
	if m == unit || signIn(p, m) != p-1 || !slices.Equal(keptBy(p, m), pointsOfLine(p, l)) {
		t.Errorf("ReflectionIn(%d, %d, %v) = %v with the sign %d keeps %v", p, colour, l, m, signIn(p, m), keptBy(p, m))
	}
	wantMove(t, p, colour, m, true)
	for _, a := range scattered(p, 9) {
		b := led(p, m, a)
		if !on(p, middleIn(p, a, b), l) || productIn(p, colour, minus(p, b, a), turned(p, l)) != 0 {
			t.Errorf("ReflectionIn(%d, %d, %v) = %v leads %v to %v", p, colour, l, m, a, b)
		}
	}
	if twice, code := impl.ProductOfMoves(p, m, m); twice != unit || code != impl.ErrNone {
		t.Errorf("ReflectionIn(%d, %d, %v) = %v, done twice, is %v, %d", p, colour, l, m, twice, code)
	}
	points, code1 := impl.PointsOn(p, l)
	kept, code2 := impl.FixedPoints(p, m)
	if !slices.Equal(kept, points) || code1 != impl.ErrNone || code2 != impl.ErrNone {
		t.Errorf("ReflectionIn(%d, %d, %v) = %v keeps %v", p, colour, l, m, kept)
	}
	if same, code := impl.MoveLine(p, colour, m, l); same != l || code != impl.ErrNone {
		t.Errorf("ReflectionIn(%d, %d, %v) = %v leads the line to %v, %d", p, colour, l, m, same, code)
	}
}

func TestReflections(t *testing.T) {
	inColours(func(p, in int64) {
		lines := everyLine(p)
		for _, l := range append(thinned(lines, 140), nullAmong(p, in, lines)...) {
			if isNull(p, in, l) {
				wantCode(t, sampleOf("ReflectionIn", impl.ReflectionIn), p, []any{colour(in), l}, impl.ErrState)
				continue
			}
			m, code := impl.ReflectionIn(p, in, l)
			if code != impl.ErrNone {
				t.Errorf("ReflectionIn(%d, %d, %v): code %d", p, in, l, code)
			}
			checkReflection(t, p, in, l, m)
		}
	})
}

func TestNoReflectionsInNullLinesOfGreen(t *testing.T) {
	for _, p := range fields {
		for c := range p {
			for _, l := range []impl.Line{{1, 0, c}, {0, 1, c}} {
				wantCode(t, sampleOf("ReflectionIn", impl.ReflectionIn), p, []any{colour(2), l}, impl.ErrState)
			}
			for _, in := range []colour{0, 1} {
				if m, code := impl.ReflectionIn(p, int64(in), impl.Line{1, 0, c}); m != mapOf(p-1, 0, 0, 1, mod(p, -2*c), 0) || code != impl.ErrNone {
					t.Errorf("ReflectionIn(%d, %d, {1, 0, %d}) = %v, %d", p, in, c, m, code)
				}
			}
		}
	}
}

// Of all moves but the identity, only the reflection keeps the points of a line, and for a null line
// none does.
func TestReflectionsAreTheOnlyOnes(t *testing.T) {
	for _, p := range []int64{3, 5, 7} {
		for _, colour := range colours {
			centred := centredMoves(p, colour)
			for _, l := range everyLine(p) {
				row := pointsOfLine(p, l)
				var found []impl.Move
				for _, m := range centred {
					m = shiftedTo(p, m, row[0], row[0])
					if m != unit && led(p, m, row[1]) == row[1] {
						found = append(found, m)
					}
				}
				m, code := impl.ReflectionIn(p, colour, l)
				if isNull(p, colour, l) && len(found) == 0 && code == impl.ErrState {
					continue
				}
				if len(found) != 1 || m != found[0] || code != impl.ErrNone {
					t.Errorf("ReflectionIn(%d, %d, %v) = %v, %d, want %v", p, colour, l, m, code, found)
				}
			}
		}
	}
}

func checkTurns(t *testing.T, p, colour int64, a impl.Point, centred []impl.Move) {
	t.Helper()
	var want []impl.Move
	for _, m := range centred {
		if signIn(p, m) == 1 {
			want = append(want, shiftedTo(p, m, a, a))
		}
	}
	list, code := impl.TurnsAbout(p, colour, a)
	if !slices.Equal(list, want) || !slices.Contains(list, unit) || code != impl.ErrNone {
		t.Errorf("TurnsAbout(%d, %d, %v) = %v, %d, want %v", p, colour, a, list, code, want)
	}
	if n, code := impl.CountTurns(p, colour); n != int64(len(want)) || code != impl.ErrNone {
		t.Errorf("CountTurns(%d, %d) = %d, %d, but about %v there are %d", p, colour, n, code, a, len(want))
	}
}

func TestTurnsAbout(t *testing.T) {
	inColours(func(p, colour int64) {
		centred := centredMoves(p, colour)
		for _, a := range everyPoint(p) {
			checkTurns(t, p, colour, a, centred)
		}
	})
}

// There are p - 1 turns where there are null lines, and p + 1 elsewhere.
func TestCountTurns(t *testing.T) {
	inColours(func(p, colour int64) {
		want := p + 1
		if hasNullLines(p, colour) {
			want = p - 1
		}
		if n, code := impl.CountTurns(p, colour); n != want || code != impl.ErrNone {
			t.Errorf("CountTurns(%d, %d) = %d, %d, want %d", p, colour, n, code, want)
		}
	})
}

func TestShifts(t *testing.T) {
	for _, p := range fields {
		for _, a := range everyPoint(p) {
			m, code := impl.ShiftBy(p, a)
			if m != mapOf(1, 0, 0, 1, a[0], a[1]) || code != impl.ErrNone {
				t.Errorf("ShiftBy(%d, %v) = %v, %d", p, a, m, code)
			}
			for _, colour := range colours {
				wantMove(t, p, colour, m, true)
			}
			b := impl.Point{2, p - 1}
			if c, code := impl.MovePoint(p, m, b); minus(p, c, b) != a || code != impl.ErrNone {
				t.Errorf("ShiftBy(%d, %v) = %v leads %v to %v, %d", p, a, m, b, c, code)
			}
		}
	}
}

func checkFixedPoints(t *testing.T, p int64, m impl.Move) int {
	t.Helper()
	kept := keptBy(p, m)
	if list, code := impl.FixedPoints(p, m); !slices.Equal(list, kept) || code != impl.ErrNone {
		t.Errorf("FixedPoints(%d, %v) = %v, %d, want %v", p, m, list, code, kept)
	}
	return len(kept)
}

func TestFixedPoints(t *testing.T) {
	for _, p := range fields {
		counts, others := map[int]int{}, map[int]int{}
		check := func(m impl.Move) {
			n := checkFixedPoints(t, p, m)
			counts[n]++
			if sign := signIn(p, m); sign != 1 && sign != p-1 {
				others[n]++
			}
		}
		for _, m := range someMaps(p) {
			check(m)
		}
		if p <= 5 {
			everyMap(p, scattered(p, 5), check)
		}
		if counts[0] == 0 || counts[1] == 0 || counts[int(p)] == 0 || counts[int(p*p)] == 0 || len(counts) != 4 {
			t.Errorf("numbers of points kept for %d: %v", p, counts)
		}
		if others[0] == 0 || others[1] == 0 || others[int(p)] == 0 {
			t.Errorf("numbers of points kept by maps that are no moves for %d: %v", p, others)
		}
	}
}

// kindIn tells the kind by the number of points that a move keeps, and its sign.
func kindIn(p int64, m impl.Move) int64 {
	kept := int64(len(keptBy(p, m)))
	switch {
	case kept == p*p:
		return 0
	case kept == 1:
		return 2
	case signIn(p, m) == 1:
		return 1
	case kept == p:
		return 3
	}
	return 4
}

// checkKept holds a kind against the points that the program says are kept.
func checkKept(t *testing.T, p, colour int64, m impl.Move, kind int64) {
	t.Helper()
	kept, code := impl.FixedPoints(p, m)
	want := []int64{p * p, 0, 1, p, 0}[kind]
	if int64(len(kept)) != want || code != impl.ErrNone {
		t.Errorf("%v has for %d the kind %d in %d, but keeps %v, %d", m, p, kind, colour, kept, code)
	}
	if kind != 3 {
		return
	}
	l := sideIn(p, kept[0], kept[1])
	if reflection, code := impl.ReflectionIn(p, colour, l); reflection != m || code != impl.ErrNone {
		t.Errorf("%v keeps %v for %d, but the reflection in %d is %v, %d", m, l, p, colour, reflection, code)
	}
}

func TestKindsGoWithFixedPoints(t *testing.T) {
	counts := map[[3]int64]int{}
	inMoves(func(p, colour int64, m impl.Move) {
		want := kindIn(p, m)
		kind, code := impl.KindOfMove(p, colour, m)
		if kind != want || code != impl.ErrNone {
			t.Errorf("KindOfMove(%d, %d, %v) = %d, %d, want %d", p, colour, m, kind, code, want)
		}
		checkKept(t, p, colour, m, want)
		counts[[3]int64{p, colour, want}]++
	})
	inColours(func(p, colour int64) {
		for kind := range int64(5) {
			if counts[[3]int64{p, colour, kind}] == 0 {
				t.Errorf("no moves of the kind %d for %d in %d", kind, p, colour)
			}
		}
	})
}

// checkTwoReflections expects a turn about the meet of two lines, and a shift, perpendicular to them
// and by twice the way between them, for two that are parallel.
func checkTwoReflections(t *testing.T, p, colour int64, l, m impl.Line) {
	t.Helper()
	first, code1 := impl.ReflectionIn(p, colour, l)
	second, code2 := impl.ReflectionIn(p, colour, m)
	product, code3 := impl.ProductOfMoves(p, first, second)
	kind, code4 := impl.KindOfMove(p, colour, product)
	if code1|code2|code3|code4 != impl.ErrNone {
		t.Errorf("reflections in %v and %v for %d in %d: %d, %d, %d, %d", l, m, p, colour, code1, code2, code3, code4)
	}
	want := int64(2)
	if l == m {
		want = 0
	} else if l[0] == m[0] && l[1] == m[1] {
		want = 1
	}
	if kind != want || signIn(p, product) != 1 {
		t.Errorf("reflections in %v and %v for %d in %d: %v has the kind %d, want %d", l, m, p, colour, product, kind, want)
	}
	a := led(p, first, impl.Point{1, 2})
	way := minus(p, led(p, second, a), impl.Point{1, 2})
	if want == 1 && (product.Shift != way || productIn(p, colour, way, turned(p, l)) != 0) {
		t.Errorf("reflections in %v and %v for %d in %d: %v is no shift across the lines", l, m, p, colour, product)
	}
	if meet, code := impl.MeetOf(p, l, m); want == 2 {
		kept, code5 := impl.FixedPoints(p, product)
		turns, code6 := impl.TurnsAbout(p, colour, meet)
		if !slices.Equal(kept, []impl.Point{meet}) || !slices.Contains(turns, product) || code|code5|code6 != impl.ErrNone {
			t.Errorf("reflections in %v and %v for %d in %d: %v keeps %v, want %v", l, m, p, colour, product, kept, meet)
		}
	}
}

func TestTwoReflections(t *testing.T) {
	inColours(func(p, colour int64) {
		lines := slices.DeleteFunc(twoOfEachSlope(p), func(l impl.Line) bool { return isNull(p, colour, l) })
		// Parallel lines are neighbours in the list, and two lines of those that are thinned are rarely parallel.
		for i, l := range lines {
			checkTwoReflections(t, p, colour, l, lines[(i+1)%len(lines)])
			for _, m := range thinned(lines, 6) {
				checkTwoReflections(t, p, colour, l, m)
			}
		}
	})
}

// orderOfMap counts until three points on no line are back where they were.
func orderOfMap(p int64, m impl.Move) int64 {
	three := [3]impl.Point{{0, 0}, {1, 0}, {0, 1}}
	at := three
	for k := int64(1); ; k++ {
		for i, a := range at {
			at[i] = led(p, m, a)
		}
		if at == three {
			return k
		}
	}
}

// checkOrder expects that the products of 1, 2, .. times the move are not the identity before order.
func checkOrder(t *testing.T, p int64, m impl.Move, order int64) {
	t.Helper()
	power := m
	for k := int64(1); k <= order; k++ {
		if (power == unit) != (k == order) {
			t.Errorf("%v has the order %d for %d, but %d times it is %v", m, order, p, k, power)
		}
		next, code := impl.ProductOfMoves(p, power, m)
		if code != impl.ErrNone {
			t.Errorf("ProductOfMoves(%d, %v, %v): code %d", p, power, m, code)
		}
		power = next
	}
}

func TestOrdersOfMoves(t *testing.T) {
	counts := map[[3]int64]int{}
	inMoves(func(p, colour int64, m impl.Move) {
		want := orderOfMap(p, m)
		order, code := impl.OrderOfMove(p, colour, m)
		if order != want || code != impl.ErrNone {
			t.Errorf("OrderOfMove(%d, %d, %v) = %d, %d, want %d", p, colour, m, order, code, want)
		}
		checkOrder(t, p, m, want)
		counts[[3]int64{p, colour, want}]++
		if kind := kindIn(p, m); kind != 2 && order != []int64{1, p, 0, 2, 2 * p}[kind] {
			t.Errorf("OrderOfMove(%d, %d, %v) = %d, but the kind is %d", p, colour, m, order, kind)
		}
	})
	inColours(func(p, colour int64) {
		turns, _ := impl.CountTurns(p, colour)
		for _, order := range []int64{1, 2, p, 2 * p, turns} {
			if counts[[3]int64{p, colour, order}] == 0 {
				t.Errorf("no moves of the order %d for %d in %d", order, p, colour)
			}
		}
	})
}

// movesTo finds the moves among all those that lead a to c.
func movesTo(p int64, centred []impl.Move, a, b, c, d impl.Point) []impl.Move {
	var list []impl.Move
	for _, m := range centred {
		if m = shiftedTo(p, m, a, c); led(p, m, b) == d {
			list = append(list, m)
		}
	}
	return list
}

func checkMovesBetween(t *testing.T, p, in int64, four [4]impl.Point, centred []impl.Move) {
	t.Helper()
	a, b, c, d := four[0], four[1], four[2], four[3]
	q := quadranceIn(p, in, a, b)
	if q == 0 || q != quadranceIn(p, in, c, d) {
		wantCode(t, sampleOf("MovesBetween", impl.MovesBetween), p, []any{colour(in), a, b, c, d}, impl.ErrState)
		return
	}
	want := movesTo(p, centred, a, b, c, d)
	list, code := impl.MovesBetween(p, in, a, b, c, d)
	if len(list) != 2 || !slices.Equal(list, want) || code != impl.ErrNone {
		t.Errorf("MovesBetween(%d, %d, %v) = %v, %d, want %v", p, in, four, list, code, want)
		return
	}
	if signIn(p, list[0])+signIn(p, list[1]) != p {
		t.Errorf("MovesBetween(%d, %d, %v) = %v have equal signs", p, in, four, list)
	}
	for _, m := range list {
		to, code1 := impl.MovePoint(p, m, a)
		end, code2 := impl.MovePoint(p, m, b)
		if to != c || end != d || code1 != impl.ErrNone || code2 != impl.ErrNone {
			t.Errorf("MovesBetween(%d, %d, %v): %v leads to %v and %v", p, in, four, m, to, end)
		}
		wantMove(t, p, in, m, true)
	}
}

func TestMovesBetween(t *testing.T) {
	inColours(func(p, colour int64) {
		centred, points := centredMoves(p, colour), everyPoint(p)
		some := append(scattered(p, 5), impl.Point{1, 2})
		for i, a := range some {
			for _, b := range some {
				c := some[(i+2)%len(some)]
				q := quadranceIn(p, colour, a, b)
				for _, d := range points {
					if quadranceIn(p, colour, c, d) == q || (d[0]+d[1])%5 == 0 {
						checkMovesBetween(t, p, colour, [4]impl.Point{a, b, c, d}, centred)
					}
				}
				checkMovesBetween(t, p, colour, [4]impl.Point{a, b, a, b}, centred)
				checkMovesBetween(t, p, colour, [4]impl.Point{a, b, b, a}, centred)
			}
		}
	})
}

func TestMovesBetweenAllPointsOfThree(t *testing.T) {
	points := everyPoint(3)
	for _, colour := range colours {
		centred := centredMoves(3, colour)
		for _, a := range points {
			for _, b := range points {
				for _, c := range points {
					for _, d := range points {
						checkMovesBetween(t, 3, colour, [4]impl.Point{a, b, c, d}, centred)
					}
				}
			}
		}
	}
}

// The quadrance of points on a null line is 0, also where they differ, and is equal to that of
// others on one.
func TestNoMovesBetweenPointsOfNullLines(t *testing.T) {
	inColours(func(p, in int64) {
		want := func(a, b, c, d impl.Point) {
			wantCode(t, sampleOf("MovesBetween", impl.MovesBetween), p, []any{colour(in), a, b, c, d}, impl.ErrState)
		}
		for _, l := range nullAmong(p, in, twoOfEachSlope(p)) {
			row := pointsOfLine(p, l)
			want(row[0], row[1], row[0], row[1])
			want(row[0], row[1], row[1], row[2])
			want(row[0], row[1], row[2], row[2])
			want(row[1], row[1], row[0], row[2])
		}
		for _, a := range scattered(p, 5) {
			want(a, a, a, a)
			want(a, a, impl.Point{1, 2}, impl.Point{1, 2})
		}
	})
}

func TestMoveListsAreNew(t *testing.T) {
	a, b, c := impl.Point{0, 0}, impl.Point{1, 0}, impl.Point{0, 1}
	quarter := mapOf(0, 4, 1, 0, 0, 0)
	lists := func() (turns, moves []impl.Move, kept []impl.Point) {
		turns, _ = impl.TurnsAbout(5, 0, a)
		moves, _ = impl.MovesBetween(5, 0, a, b, a, c)
		kept, _ = impl.FixedPoints(5, quarter)
		return turns, moves, kept
	}
	wantTurns := []impl.Move{mapOf(0, 1, 4, 0, 0, 0), quarter, unit, mapOf(4, 0, 0, 4, 0, 0)}
	wantMoves, wantKept := []impl.Move{mapOf(0, 1, 1, 0, 0, 0), quarter}, []impl.Point{a}
	turns, moves, kept := lists()
	for range 2 {
		otherTurns, otherMoves, otherKept := lists()
		if !slices.Equal(otherTurns, wantTurns) || !slices.Equal(otherMoves, wantMoves) || !slices.Equal(otherKept, wantKept) {
			t.Errorf("TurnsAbout = %v, MovesBetween = %v, FixedPoints = %v", otherTurns, otherMoves, otherKept)
		}
		clear(otherTurns[:cap(otherTurns)])
		clear(otherMoves[:cap(otherMoves)])
		clear(otherKept[:cap(otherKept)])
	}
	if !slices.Equal(turns, wantTurns) || !slices.Equal(moves, wantMoves) || !slices.Equal(kept, wantKept) {
		t.Errorf("two results share memory: %v, %v, %v", turns, moves, kept)
	}
}

// The numbers are worked out by hand.
func TestLayer7Examples(t *testing.T) {
	quarter := mapOf(0, 6, 1, 0, 2, 3)
	if a, code := impl.MovePoint(7, quarter, impl.Point{1, 2}); a != (impl.Point{0, 4}) || code != impl.ErrNone {
		t.Errorf("MovePoint = %v, %d", a, code)
	}
	if l, code := impl.MoveLine(7, 0, quarter, impl.Line{0, 1, 0}); l != (impl.Line{1, 0, 5}) || code != impl.ErrNone {
		t.Errorf("MoveLine = %v, %d", l, code)
	}
	if m, code := impl.InverseMove(7, 0, quarter); m != mapOf(0, 1, 6, 0, 4, 2) || code != impl.ErrNone {
		t.Errorf("InverseMove = %v, %d", m, code)
	}
	if m, code := impl.ReflectionIn(7, 2, impl.Line{1, 5, 0}); m != mapOf(0, 2, 4, 0, 0, 0) || code != impl.ErrNone {
		t.Errorf("ReflectionIn = %v, %d", m, code)
	}
	shift := mapOf(1, 0, 0, 1, 1, 0)
	first, code1 := impl.ProductOfMoves(7, shift, quarter)
	second, code2 := impl.ProductOfMoves(7, quarter, shift)
	if first != mapOf(0, 6, 1, 0, 2, 4) || second != mapOf(0, 6, 1, 0, 3, 3) || code1 != impl.ErrNone || code2 != impl.ErrNone {
		t.Errorf("ProductOfMoves = %v, %v", first, second)
	}
}
