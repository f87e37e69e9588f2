package tests

import (
	"iter"
	"slices"
	"testing"

	"loop.example/g01370/impl"
)

// eachPlace yields the places in their order.
func eachPlace(p int64) iter.Seq[impl.Place] {
	return func(yield func(impl.Place) bool) {
		for n := range p*p + p + 1 {
			a := impl.Place{0, 0, 1}
			if n > p {
				a = impl.Place{1, (n - p - 1) / p, (n - p - 1) % p}
			} else if n > 0 {
				a = impl.Place{0, 1, n - 1}
			}
			if !yield(a) {
				return
			}
		}
	}
}

func everyPlace(p int64) []impl.Place { return slices.Collect(eachPlace(p)) }

func placesWhere(p int64, holds func(a impl.Place) bool) []impl.Place {
	var list []impl.Place
	for a := range eachPlace(p) {
		if holds(a) {
			list = append(list, a)
		}
	}
	return list
}

// isPlace tells by the numbers alone whether they are those of a place.
func isPlace(n [3]int64) bool {
	return n[0] == 1 || n[0] == 0 && n[1] == 1 || n[0] == 0 && n[1] == 0 && n[2] == 1
}

// formIn is the product of two places.
func formIn(p int64, a, b impl.Place) int64 {
	return mod(p, a[0]*b[0]+a[1]*b[1]-a[2]*b[2])
}

func isNullIn(p int64, a impl.Place) bool { return formIn(p, a, a) == 0 }

func nullPlacesIn(p int64) []impl.Place {
	return placesWhere(p, func(a impl.Place) bool { return isNullIn(p, a) })
}

func lineIn(p int64, pole impl.Place) []impl.Place {
	return placesWhere(p, func(a impl.Place) bool { return formIn(p, pole, a) == 0 })
}

// apartIn looks for the quadrance of two places, which needs no dividing: times the product of both
// with themselves it is this product less their own one, times itself. There is none if one is null.
func apartIn(p int64, a, b impl.Place) (int64, int64) {
	both, n := formIn(p, a, a)*formIn(p, b, b), formIn(p, a, b)
	if mod(p, both) == 0 {
		return 0, impl.ErrState
	}
	for q := range p {
		if mod(p, q*both-both+n*n) == 0 {
			return q, impl.ErrNone
		}
	}
	return -1, impl.ErrNone
}

// polesThrough looks for the poles of all lines that have some places.
func polesThrough(p int64, places ...impl.Place) []impl.Place {
	return placesWhere(p, func(pole impl.Place) bool {
		return !slices.ContainsFunc(places, func(a impl.Place) bool { return formIn(p, pole, a) != 0 })
	})
}

// somePlaces has about n of the places and of the null ones, in no order, those with 0 in front, and
// three of a line whose pole is null; for small primes it has all places.
func somePlaces(p int64, n int) []impl.Place {
	all := everyPlace(p)
	if len(all) <= n {
		return all
	}
	list := []impl.Place{{0, 0, 1}, {0, 1, 0}, {0, 1, 1}, {0, 1, 2}, {1, 0, 0}, {1, 0, 1}, {1, 1, 0}, {1, 2, 1}}
	null := nullPlacesIn(p)
	list = append(list, thinned(null, n/6)...)
	for i := range n / 2 {
		list = append(list, all[(i*37+i*i*11)%len(all)])
	}
	for _, pole := range []impl.Place{null[1], null[len(null)/2]} {
		row := lineIn(p, pole)
		list = append(list, row[0], row[len(row)/3], row[len(row)-1])
	}
	return list
}

func inPlaces(n int, check func(p int64, a impl.Place)) {
	for _, p := range fields {
		for _, a := range somePlaces(p, n) {
			check(p, a)
		}
	}
}

func inTwoPlaces(n int, check func(p int64, a, b impl.Place)) {
	inPlaces(n, func(p int64, a impl.Place) {
		for _, b := range somePlaces(p, n) {
			check(p, a, b)
		}
	})
}

// inThreePlaces also takes places in line, which are seldom among places that are just any.
func inThreePlaces(n int, check func(p int64, a, b, c impl.Place)) {
	inTwoPlaces(n, func(p int64, a, b impl.Place) {
		for _, c := range somePlaces(p, n) {
			check(p, a, b, c)
		}
	})
	inPlaces(3*n, func(p int64, pole impl.Place) {
		row := lineIn(p, pole)
		k := len(row)
		check(p, row[0], row[1], row[2])
		check(p, row[k-1], row[0], row[k/2])
		check(p, row[k/2], row[k-2], row[1])
		check(p, row[1], row[2], row[1])
	})
}

// placeSamples has each function of the layer but NullPlaces, with arguments that have a result, and
// with those for which it returns ErrState.
func placeSamples() []sample {
	x, y, z, n, m := impl.Place{1, 0, 0}, impl.Place{0, 1, 0}, impl.Place{0, 0, 1}, impl.Place{1, 0, 1}, impl.Place{0, 1, 1}
	a, b := impl.Place{1, 1, 0}, impl.Place{1, 1, 1}
	list := []sample{
		sampleOf("PlaceOf", impl.PlaceOf, 2, 1, 0), sampleOf("PlaceOf", impl.PlaceOf, 0, 2, 1), sampleOf("PlaceOf", impl.PlaceOf, 0, 0, 2),
		sampleOf("PlaceOf", impl.PlaceOf, 1, 0, 2), sampleOf("PlaceOf", impl.PlaceOf, 0, 0, 0),
	}
	for _, one := range []impl.Place{x, y, z, n, m, a, b} {
		list = append(list, sampleOf("IsNullPlace", impl.IsNullPlace, one), sampleOf("PlacesOn", impl.PlacesOn, one),
			sampleOf("CountByQuadrance", impl.CountByQuadrance, one), sampleOf("KindOfLine", impl.KindOfLine, one))
	}
	for _, two := range [][2]impl.Place{{x, y}, {y, a}, {a, b}, {b, b}, {n, x}, {x, n}, {n, m}, {n, n}} {
		list = append(list, sampleOf("PlaceProduct", impl.PlaceProduct, two[0], two[1]), sampleOf("JoinOf", impl.JoinOf, two[0], two[1]),
			sampleOf("PlaceQuadrance", impl.PlaceQuadrance, two[0], two[1]), sampleOf("MidpointsOf", impl.MidpointsOf, two[0], two[1]))
	}
	for _, three := range [][3]impl.Place{{x, y, z}, {x, y, a}, {a, b, y}, {z, a, x}, {a, a, a}, {x, x, y}, {y, z, y}, {n, x, y}, {x, n, m}, {y, n, b}} {
		list = append(list, sampleOf("AreInLine", impl.AreInLine, three[0], three[1], three[2]),
			sampleOf("SpreadOfJoins", impl.SpreadOfJoins, three[0], three[1], three[2]),
			sampleOf("QuadrancesOfPlaces", impl.QuadrancesOfPlaces, three[0], three[1], three[2]))
	}
	return list
}

func TestPlacesInvalidFirst(t *testing.T) {
	checkInvalidFirst(t, append(placeSamples(), sampleOf("NullPlaces", impl.NullPlaces)))
}

func TestPlacesRangeSecond(t *testing.T) { checkRangeSecond(t, placeSamples()) }

// Of all three numbers from -1 to 5, those are places that are among all places.
func TestWhatIsNoPlaceIsOutOfRange(t *testing.T) {
	for _, p := range []int64{3, 5} {
		places := everyPlace(p)
		for n := range 7 * 7 * 7 {
			a := impl.Place{int64(n/49) - 1, int64(n/7%7) - 1, int64(n%7) - 1}
			want := int64(impl.ErrRange)
			if slices.Contains(places, a) {
				want = impl.ErrNone
			}
			if _, code := impl.IsNullPlace(p, a); code != want {
				t.Errorf("IsNullPlace(%d, %v): code %d, want %d", p, a, code, want)
			}
		}
	}
}

// The places that the other tests take are all there are, in order.
func TestEveryPlace(t *testing.T) {
	for _, p := range fields {
		numbers := slices.DeleteFunc(everyNumbers(p), func(n [3]int64) bool { return !isPlace(n) })
		if !slices.EqualFunc(numbers, everyPlace(p), func(n [3]int64, a impl.Place) bool { return n == a }) {
			t.Errorf("places for %d: %v", p, everyPlace(p))
		}
	}
}

func wantPlace(t *testing.T, p int64, numbers [3]int64, want impl.Place) {
	t.Helper()
	if a, code := impl.PlaceOf(p, numbers[0], numbers[1], numbers[2]); a != want || code != impl.ErrNone {
		t.Errorf("PlaceOf(%d, %v) = %v, %d, want %v", p, numbers, a, code, want)
	}
}

// Each three numbers but 0, 0, 0 are a place times one number.
func TestNumbersMakePlaces(t *testing.T) {
	for _, p := range fields {
		made := map[[3]int64]bool{}
		for _, a := range everyPlace(p) {
			for n := int64(1); n < p; n++ {
				numbers := [3]int64{mod(p, a[0]*n), mod(p, a[1]*n), mod(p, a[2]*n)}
				wantPlace(t, p, numbers, a)
				made[numbers] = true
			}
		}
		if len(made) != int(p*p*p-1) {
			t.Errorf("%d of the numbers for %d make places", len(made), p)
		}
		wantCode(t, sampleOf("PlaceOf", impl.PlaceOf), p, []any{int64(0), int64(0), int64(0)}, impl.ErrState)
	}
}

func TestProductsOfPlaces(t *testing.T) {
	inTwoPlaces(60, func(p int64, a, b impl.Place) {
		if n, code := impl.PlaceProduct(p, a, b); n != formIn(p, a, b) || code != impl.ErrNone {
			t.Errorf("PlaceProduct(%d, %v, %v) = %d, %d, want %d", p, a, b, n, code, formIn(p, a, b))
		}
	})
	for _, p := range fields {
		for _, a := range everyPlace(p) {
			if n, code := impl.PlaceProduct(p, a, a); n != formIn(p, a, a) || code != impl.ErrNone {
				t.Errorf("PlaceProduct(%d, %v, itself) = %d, %d, want %d", p, a, n, code, formIn(p, a, a))
			}
		}
	}
}

func TestNullPlaces(t *testing.T) {
	for _, p := range fields {
		for _, a := range everyPlace(p) {
			if yes, code := impl.IsNullPlace(p, a); yes != isNullIn(p, a) || code != impl.ErrNone {
				t.Errorf("IsNullPlace(%d, %v) = %v, %d", p, a, yes, code)
			}
		}
		list, code := impl.NullPlaces(p)
		if !slices.Equal(list, nullPlacesIn(p)) || len(list) != int(p+1) || code != impl.ErrNone {
			t.Errorf("NullPlaces(%d) = %v, %d, want %v", p, list, code, nullPlacesIn(p))
		}
	}
}

func TestPlacesOnLines(t *testing.T) {
	for _, p := range fields {
		for _, pole := range everyPlace(p) {
			list, code := impl.PlacesOn(p, pole)
			if want := lineIn(p, pole); !slices.Equal(list, want) || len(list) != int(p+1) || code != impl.ErrNone {
				t.Errorf("PlacesOn(%d, %v) = %v, %d, want %v", p, pole, list, code, want)
			}
			if slices.Contains(list, pole) != isNullIn(p, pole) {
				t.Errorf("PlacesOn(%d, %v) = %v, which must have its pole just if this is null", p, pole, list)
			}
			for _, a := range list {
				if n, code := impl.PlaceProduct(p, pole, a); n != 0 || code != impl.ErrNone {
					t.Errorf("PlaceProduct(%d, %v, %v) = %d, %d, but the line has it", p, pole, a, n, code)
				}
			}
		}
	}
}

// checkJoin holds a join against all poles, and as the meet of two lines against their places.
func checkJoin(t *testing.T, p int64, a, b impl.Place) impl.Place {
	t.Helper()
	l, code := impl.JoinOf(p, a, b)
	if want := polesThrough(p, a, b); len(want) != 1 || l != want[0] || code != impl.ErrNone {
		t.Errorf("JoinOf(%d, %v, %v) = %v, %d, want %v", p, a, b, l, code, want)
		return l
	}
	if back, code := impl.JoinOf(p, b, a); back != l || code != impl.ErrNone {
		t.Errorf("JoinOf(%d, %v, %v) = %v, %d, but %v the other way round", p, a, b, l, code, back)
	}
	row, code := impl.PlacesOn(p, l)
	if !slices.Contains(row, a) || !slices.Contains(row, b) || code != impl.ErrNone {
		t.Errorf("JoinOf(%d, %v, %v) = %v, on the line of which both must be: %v, %d", p, a, b, l, row, code)
	}
	onA, code1 := impl.PlacesOn(p, a)
	onB, code2 := impl.PlacesOn(p, b)
	both := slices.DeleteFunc(onA, func(c impl.Place) bool { return !slices.Contains(onB, c) })
	if !slices.Equal(both, []impl.Place{l}) || code1 != impl.ErrNone || code2 != impl.ErrNone {
		t.Errorf("JoinOf(%d, %v, %v) = %v, but their lines meet in %v", p, a, b, l, both)
	}
	return l
}

func TestJoinsAreOnBothLines(t *testing.T) {
	seen := map[[2]int64]int{}
	inTwoPlaces(45, func(p int64, a, b impl.Place) {
		if a == b {
			wantCode(t, sampleOf("JoinOf", impl.JoinOf), p, []any{a, b}, impl.ErrState)
			return
		}
		l := checkJoin(t, p, a, b)
		kind := int64(0)
		if isNullIn(p, l) {
			kind = 1
		}
		seen[[2]int64{p, kind}]++
	})
	for _, p := range fields {
		if seen[[2]int64{p, 0}] < 40 || seen[[2]int64{p, 1}] < 20 {
			t.Errorf("joins for %d: %d, and null ones: %d", p, seen[[2]int64{p, 0}], seen[[2]int64{p, 1}])
		}
		for _, a := range everyPlace(p) {
			wantCode(t, sampleOf("JoinOf", impl.JoinOf), p, []any{a, a}, impl.ErrState)
		}
	}
}

// The join of two places on a line is the pole of this line, and so joins of joins lead back.
func TestJoinsOfPlacesOfLines(t *testing.T) {
	inPlaces(60, func(p int64, pole impl.Place) {
		row, code := impl.PlacesOn(p, pole)
		if code != impl.ErrNone || len(row) != int(p+1) {
			t.Fatalf("PlacesOn(%d, %v) = %v, %d", p, pole, row, code)
		}
		for i, a := range row {
			b := row[(i+1)%len(row)]
			if l, code := impl.JoinOf(p, a, b); l != pole || code != impl.ErrNone {
				t.Errorf("JoinOf(%d, %v, %v) = %v, %d, want %v", p, a, b, l, code, pole)
			}
		}
	})
}

func TestPlacesInLine(t *testing.T) {
	answers := map[[2]int64]int{}
	inThreePlaces(31, func(p int64, a, b, c impl.Place) {
		want, kind := len(polesThrough(p, a, b, c)) > 0, int64(0)
		if yes, code := impl.AreInLine(p, a, b, c); yes != want || code != impl.ErrNone {
			t.Errorf("AreInLine(%d, %v, %v, %v) = %v, %d, want %v", p, a, b, c, yes, code, want)
		}
		if want {
			kind = 1
		}
		if a != b && b != c && a != c {
			answers[[2]int64{p, kind}]++
		}
	})
	for _, p := range fields {
		if answers[[2]int64{p, 0}] < 100 || answers[[2]int64{p, 1}] < 100 {
			t.Errorf("three places for %d that are in line, and that are not: %v", p, answers)
		}
	}
}

// Three places of which two are equal are always in line.
func TestEqualPlacesAreInLine(t *testing.T) {
	inTwoPlaces(60, func(p int64, a, b impl.Place) {
		for _, three := range [][3]impl.Place{{a, a, b}, {a, b, a}, {b, a, a}, {a, a, a}} {
			if yes, code := impl.AreInLine(p, three[0], three[1], three[2]); !yes || code != impl.ErrNone {
				t.Errorf("AreInLine(%d, %v) = %v, %d", p, three, yes, code)
			}
		}
	})
}

func checkQuadranceOfPlaces(t *testing.T, p int64, a, b impl.Place) {
	t.Helper()
	want, wantCode := apartIn(p, a, b)
	q, code := impl.PlaceQuadrance(p, a, b)
	if q != want || code != wantCode {
		t.Errorf("PlaceQuadrance(%d, %v, %v) = %d, %d, want %d, %d", p, a, b, q, code, want, wantCode)
	}
	n, productCode := impl.PlaceProduct(p, a, b)
	if code == impl.ErrNone && (n == 0) != (q == 1) || productCode != impl.ErrNone {
		t.Errorf("PlaceQuadrance(%d, %v, %v) = %d, and the product is %d, %d", p, a, b, q, n, productCode)
	}
}

func TestQuadrancesOfTwoPlaces(t *testing.T) {
	inTwoPlaces(60, func(p int64, a, b impl.Place) {
		checkQuadranceOfPlaces(t, p, a, b)
		checkQuadranceOfPlaces(t, p, b, a)
	})
	for _, p := range fields {
		for _, a := range everyPlace(p) {
			want := int64(impl.ErrNone)
			if isNullIn(p, a) {
				want = impl.ErrState
			}
			if q, code := impl.PlaceQuadrance(p, a, a); q != 0 || code != want {
				t.Errorf("PlaceQuadrance(%d, %v, itself) = %d, %d", p, a, q, code)
			}
		}
	}
}

func TestPerpendicularPlacesHaveTheQuadranceOne(t *testing.T) {
	inPlaces(150, func(p int64, a impl.Place) {
		row, code := impl.PlacesOn(p, a)
		if code != impl.ErrNone || len(row) == 0 {
			t.Errorf("PlacesOn(%d, %v) = %v, %d", p, a, row, code)
		}
		for _, b := range row {
			if isNullIn(p, a) || isNullIn(p, b) {
				wantCode(t, sampleOf("PlaceQuadrance", impl.PlaceQuadrance), p, []any{a, b}, impl.ErrState)
				continue
			}
			if q, code := impl.PlaceQuadrance(p, a, b); q != 1 || code != impl.ErrNone {
				t.Errorf("PlaceQuadrance(%d, %v, %v) = %d, %d, but they are perpendicular", p, a, b, q, code)
			}
		}
	})
}

// A null place has no quadrance, on whichever side it stands.
func TestNullPlacesHaveNoQuadrances(t *testing.T) {
	for _, p := range fields {
		for _, n := range nullPlacesIn(p) {
			for _, a := range somePlaces(p, 30) {
				wantCode(t, sampleOf("PlaceQuadrance", impl.PlaceQuadrance), p, []any{a, n}, impl.ErrState)
				wantCode(t, sampleOf("PlaceQuadrance", impl.PlaceQuadrance), p, []any{n, a}, impl.ErrState)
			}
		}
	}
}

// joinIn is the join of two different places, told by the products that must be 0.
func joinIn(p int64, a, b impl.Place) impl.Place {
	numbers := [3]int64{a[1]*b[2] - a[2]*b[1], a[2]*b[0] - a[0]*b[2], a[1]*b[0] - a[0]*b[1]}
	for k := int64(1); k < p; k++ {
		l := impl.Place{mod(p, k*numbers[0]), mod(p, k*numbers[1]), mod(p, k*numbers[2])}
		if isPlace(l) {
			return l
		}
	}
	return impl.Place{}
}

// spreadOfPlacesIn is the spread at a of b and c, or 0 and ErrState.
func spreadOfPlacesIn(p int64, a, b, c impl.Place) (int64, int64) {
	if a == b || a == c {
		return 0, impl.ErrState
	}
	return apartIn(p, joinIn(p, a, b), joinIn(p, a, c))
}

func TestSpreadsOfJoins(t *testing.T) {
	seen := map[[2]int64]int{}
	inThreePlaces(31, func(p int64, a, b, c impl.Place) {
		want, wantCode := spreadOfPlacesIn(p, a, b, c)
		s, code := impl.SpreadOfJoins(p, a, b, c)
		if s != want || code != wantCode {
			t.Errorf("SpreadOfJoins(%d, %v, %v, %v) = %d, %d, want %d, %d", p, a, b, c, s, code, want, wantCode)
		}
		if code == impl.ErrNone && b == c && s != 0 {
			t.Errorf("SpreadOfJoins(%d, %v, %v, itself) = %d", p, a, b, s)
		}
		seen[[2]int64{p, code}]++
	})
	for _, p := range fields {
		if seen[[2]int64{p, impl.ErrNone}] < 100 || seen[[2]int64{p, impl.ErrState}] < 100 {
			t.Errorf("spreads for %d, and none: %v", p, seen)
		}
	}
}

// The cases without a spread, each for itself: only one of the joins is null, or only one of the
// places is equal to a.
func TestNoSpreadsOfNullJoins(t *testing.T) {
	fn := sampleOf("SpreadOfJoins", impl.SpreadOfJoins)
	for _, p := range fields {
		for _, n := range nullPlacesIn(p) {
			row := lineIn(p, n)
			a, b, c := row[0], row[1], impl.Place{1, 1, 1}
			for _, other := range somePlaces(p, 30) {
				if other != a && !isNullIn(p, joinIn(p, a, other)) {
					c = other
				}
			}
			if _, code := spreadOfPlacesIn(p, a, c, c); code != impl.ErrNone {
				t.Fatalf("no line through %v for %d is found that is not null", a, p)
			}
			wantCode(t, fn, p, []any{a, b, c}, impl.ErrState)
			wantCode(t, fn, p, []any{a, c, b}, impl.ErrState)
			wantCode(t, fn, p, []any{a, b, b}, impl.ErrState)
			wantCode(t, fn, p, []any{a, a, c}, impl.ErrState)
			wantCode(t, fn, p, []any{a, c, a}, impl.ErrState)
			wantCode(t, fn, p, []any{a, a, a}, impl.ErrState)
			if s, code := impl.SpreadOfJoins(p, a, c, c); s != 0 || code != impl.ErrNone {
				t.Errorf("SpreadOfJoins(%d, %v, %v, itself) = %d, %d", p, a, c, s, code)
			}
		}
	}
}

// The spread of two lines, told at their meet with any other places of both, is the quadrance of
// their poles.
func TestSpreadsOfLinesAreQuadrancesOfPoles(t *testing.T) {
	inTwoPlaces(45, func(p int64, l, m impl.Place) {
		if l == m {
			return
		}
		meet, code := impl.JoinOf(p, l, m)
		if code != impl.ErrNone {
			t.Errorf("JoinOf(%d, %v, %v): code %d", p, l, m, code)
			return
		}
		isMeet := func(a impl.Place) bool { return a == meet }
		onL, onM := slices.DeleteFunc(lineIn(p, l), isMeet), slices.DeleteFunc(lineIn(p, m), isMeet)
		want, wantCode := impl.PlaceQuadrance(p, l, m)
		for _, pair := range [][2]impl.Place{{onL[0], onM[0]}, {onL[1], onM[len(onM)-1]}, {onL[len(onL)-1], onM[1]}} {
			if s, code := impl.SpreadOfJoins(p, meet, pair[0], pair[1]); s != want || code != wantCode {
				t.Errorf("SpreadOfJoins(%d, %v, %v) = %d, %d, but the poles %v and %v have the quadrance %d, %d", p, meet, pair, s, code, l, m, want, wantCode)
			}
		}
	})
}

// checkThreeQuadrances tells whether there are quadrances.
func checkThreeQuadrances(t *testing.T, p int64, a, b, c impl.Place) bool {
	t.Helper()
	if isNullIn(p, a) || isNullIn(p, b) || isNullIn(p, c) {
		wantCode(t, sampleOf("QuadrancesOfPlaces", impl.QuadrancesOfPlaces), p, []any{a, b, c}, impl.ErrState)
		return false
	}
	var want []int64
	for _, pair := range [][2]impl.Place{{b, c}, {a, c}, {a, b}} {
		q, _ := apartIn(p, pair[0], pair[1])
		want = append(want, q)
	}
	if list, code := impl.QuadrancesOfPlaces(p, a, b, c); !slices.Equal(list, want) || code != impl.ErrNone {
		t.Errorf("QuadrancesOfPlaces(%d, %v, %v, %v) = %v, %d, want %v", p, a, b, c, list, code, want)
	}
	return true
}

func TestQuadrancesOfThreePlaces(t *testing.T) {
	seen := map[int64][2]int{}
	inThreePlaces(31, func(p int64, a, b, c impl.Place) {
		counts := seen[p]
		if checkThreeQuadrances(t, p, a, b, c) {
			counts[0]++
		} else {
			counts[1]++
		}
		seen[p] = counts
	})
	for _, p := range fields {
		if seen[p][0] < 100 || seen[p][1] < 100 {
			t.Errorf("three quadrances for %d, and none: %v", p, seen[p])
		}
	}
}

func TestPlacesInLineHaveTripleSpreads(t *testing.T) {
	seen := map[[2]int64]int{}
	inThreePlaces(31, func(p int64, a, b, c impl.Place) {
		if inLine, code := impl.AreInLine(p, a, b, c); !inLine || code != impl.ErrNone || isNullIn(p, a) || isNullIn(p, b) || isNullIn(p, c) {
			return
		}
		list, code := impl.QuadrancesOfPlaces(p, a, b, c)
		if len(list) != 3 || code != impl.ErrNone || !areTriple(p, list[0], list[1], list[2]) {
			t.Errorf("QuadrancesOfPlaces(%d, %v, %v, %v) = %v, %d, but they are in line", p, a, b, c, list, code)
			return
		}
		if yes, code := impl.AreTripleSpreads(p, list[0], list[1], list[2]); !yes || code != impl.ErrNone {
			t.Errorf("AreTripleSpreads(%d, %v) = %v, %d, for %v, %v and %v", p, list, yes, code, a, b, c)
		}
		different := int64(0)
		if a != b && b != c && a != c {
			different = 1
		}
		seen[[2]int64{p, different}]++
	})
	for _, p := range fields {
		if seen[[2]int64{p, 0}] < 30 || seen[[2]int64{p, 1}] < 30 {
			t.Errorf("places in line for %d: %v", p, seen)
		}
	}
}

// The order of the quadrances shows where all three differ.
func TestOrderOfThreeQuadrances(t *testing.T) {
	a, b, c := impl.Place{1, 0, 0}, impl.Place{1, 1, 0}, impl.Place{1, 2, 0}
	for _, p := range fields[3:] {
		ab, bc, ac := quotientIn(p, 1, 2), quotientIn(p, 1, 10), quotientIn(p, 4, 5)
		if ab == bc || bc == ac || ab == ac {
			t.Errorf("quadrances for %d are equal", p)
		}
		for three, want := range map[[3]impl.Place][]int64{{a, b, c}: {bc, ac, ab}, {b, a, c}: {ac, bc, ab}, {c, b, a}: {ab, ac, bc}, {b, c, a}: {ac, ab, bc}} {
			if list, code := impl.QuadrancesOfPlaces(p, three[0], three[1], three[2]); !slices.Equal(list, want) || code != impl.ErrNone {
				t.Errorf("QuadrancesOfPlaces(%d, %v) = %v, %d, want %v", p, three, list, code, want)
			}
		}
	}
}

// midpointsIn picks the midpoints out of all places.
func midpointsIn(p int64, a, b impl.Place) []impl.Place {
	row := lineIn(p, joinIn(p, a, b))
	return placesWhere(p, func(m impl.Place) bool {
		toA, code := apartIn(p, m, a)
		toB, _ := apartIn(p, m, b)
		return code == impl.ErrNone && toA == toB && slices.Contains(row, m)
	})
}

// checkMidpoints returns the number of the midpoints, or -1 if there can be none.
func checkMidpoints(t *testing.T, p int64, a, b impl.Place) int64 {
	t.Helper()
	if a == b || isNullIn(p, a) || isNullIn(p, b) {
		wantCode(t, sampleOf("MidpointsOf", impl.MidpointsOf), p, []any{a, b}, impl.ErrState)
		return -1
	}
	want := midpointsIn(p, a, b)
	if list, code := impl.MidpointsOf(p, a, b); !slices.Equal(list, want) || code != impl.ErrNone {
		t.Errorf("MidpointsOf(%d, %v, %v) = %v, %d, want %v", p, a, b, list, code, want)
	}
	count := int64(len(want))
	if nullJoin := isNullIn(p, joinIn(p, a, b)); nullJoin != (count == p) || !nullJoin && count != 0 && count != 2 {
		t.Errorf("MidpointsOf(%d, %v, %v): there are %d", p, a, b, count)
	}
	return count
}

// There are none or two midpoints. Only where the join is null, all places of its line that are not
// null have the quadrance 0 to each other, and so they are p midpoints.
func TestMidpointsOfPlaces(t *testing.T) {
	seen := map[[2]int64]int{}
	inTwoPlaces(32, func(p int64, a, b impl.Place) { seen[[2]int64{p, checkMidpoints(t, p, a, b)}]++ })
	for _, p := range fields {
		for _, n := range thinned(nullPlacesIn(p), 4) {
			row := lineIn(p, n)
			for _, a := range thinned(row, 4) {
				for _, b := range thinned(row, 3) {
					seen[[2]int64{p, checkMidpoints(t, p, a, b)}]++
				}
			}
		}
		for _, count := range []int64{-1, 0, 2, p} {
			if seen[[2]int64{p, count}] == 0 {
				t.Errorf("no two places for %d have %d midpoints", p, count)
			}
		}
	}
}

func TestNoMidpointsOfNullOrEqualPlaces(t *testing.T) {
	fn := sampleOf("MidpointsOf", impl.MidpointsOf)
	for _, p := range fields {
		for _, n := range nullPlacesIn(p) {
			for _, a := range somePlaces(p, 30) {
				wantCode(t, fn, p, []any{a, n}, impl.ErrState)
				wantCode(t, fn, p, []any{n, a}, impl.ErrState)
			}
		}
		for _, a := range everyPlace(p) {
			wantCode(t, fn, p, []any{a, a}, impl.ErrState)
		}
	}
}

func checkCountByQuadrance(t *testing.T, p int64, a impl.Place) {
	t.Helper()
	want := make([]int64, p)
	for _, b := range everyPlace(p) {
		if q, code := apartIn(p, a, b); code == impl.ErrNone {
			want[q]++
		}
	}
	counts, code := impl.CountByQuadrance(p, a)
	if !slices.Equal(counts, want) || code != impl.ErrNone {
		t.Errorf("CountByQuadrance(%d, %v) = %v, %d, want %v", p, a, counts, code, want)
		return
	}
	sum := int64(0)
	for _, n := range counts {
		sum += n
	}
	if counts[0] == 0 || sum != p*p {
		t.Errorf("CountByQuadrance(%d, %v) = %v, but it must have the place itself, and all %d places that are not null", p, a, counts, p*p)
	}
}

func TestCountsByQuadrance(t *testing.T) {
	inPlaces(200, func(p int64, a impl.Place) {
		if isNullIn(p, a) {
			return
		}
		checkCountByQuadrance(t, p, a)
	})
	for _, p := range fields {
		for _, a := range nullPlacesIn(p) {
			wantCode(t, sampleOf("CountByQuadrance", impl.CountByQuadrance), p, []any{a}, impl.ErrState)
		}
	}
}

func TestKindsOfLines(t *testing.T) {
	for _, p := range fields {
		places, null, seen := everyPlace(p), nullPlacesIn(p), map[int64]int64{}
		for _, pole := range places {
			want := int64(0)
			for _, a := range null {
				if formIn(p, pole, a) == 0 {
					want++
				}
			}
			seen[want]++
			if kind, code := impl.KindOfLine(p, pole); kind != want || code != impl.ErrNone {
				t.Errorf("KindOfLine(%d, %v) = %d, %d, want %d", p, pole, kind, code, want)
			}
			if (want == 1) != isNullIn(p, pole) {
				t.Errorf("the line of %v for %d has %d null places", pole, p, want)
			}
		}
		// Any two of the null places have a line, and each has the one whose pole it is.
		if seen[2] != p*(p+1)/2 || seen[1] != p+1 || seen[0] != p*(p-1)/2 {
			t.Errorf("lines for %d by their null places: %v", p, seen)
		}
	}
}

func checkNewLists[T comparable](t *testing.T, name string, list func() ([]T, int64)) {
	t.Helper()
	first, code := list()
	want := slices.Clone(first)
	for range 2 {
		other, otherCode := list()
		if len(want) == 0 || !slices.Equal(other, want) || otherCode != impl.ErrNone {
			t.Errorf("%s = %v, %d", name, other, otherCode)
		}
		clear(other[:cap(other)])
	}
	if !slices.Equal(first, want) || code != impl.ErrNone {
		t.Errorf("%s: two results share memory: %v, %d", name, first, code)
	}
}

func TestPlaceListsAreNew(t *testing.T) {
	x, y, a := impl.Place{1, 0, 0}, impl.Place{0, 1, 0}, impl.Place{1, 2, 0}
	checkNewLists(t, "NullPlaces", func() ([]impl.Place, int64) { return impl.NullPlaces(7) })
	checkNewLists(t, "PlacesOn", func() ([]impl.Place, int64) { return impl.PlacesOn(7, a) })
	checkNewLists(t, "MidpointsOf", func() ([]impl.Place, int64) { return impl.MidpointsOf(7, x, y) })
	checkNewLists(t, "QuadrancesOfPlaces", func() ([]int64, int64) { return impl.QuadrancesOfPlaces(7, x, y, a) })
	checkNewLists(t, "CountByQuadrance", func() ([]int64, int64) { return impl.CountByQuadrance(7, a) })
}

// The numbers are worked out by hand.
func TestLayer9Examples(t *testing.T) {
	wantPlace(t, 11, [3]int64{2, 5, 7}, impl.Place{1, 8, 9})
	wantPlace(t, 11, [3]int64{0, 3, 2}, impl.Place{0, 1, 8})
	wantPlace(t, 11, [3]int64{0, 0, 10}, impl.Place{0, 0, 1})
	a, b := impl.Place{1, 2, 3}, impl.Place{1, 0, 2}
	if n, code := impl.PlaceProduct(11, a, b); n != 6 || code != impl.ErrNone {
		t.Errorf("PlaceProduct = %d, %d", n, code)
	}
	if l, code := impl.JoinOf(11, a, b); l != (impl.Place{1, 3, 6}) || code != impl.ErrNone {
		t.Errorf("JoinOf = %v, %d", l, code)
	}
	if q, code := impl.PlaceQuadrance(11, a, b); q != 9 || code != impl.ErrNone {
		t.Errorf("PlaceQuadrance = %d, %d", q, code)
	}
	if list, code := impl.NullPlaces(3); !slices.Equal(list, []impl.Place{{0, 1, 1}, {0, 1, 2}, {1, 0, 1}, {1, 0, 2}}) || code != impl.ErrNone {
		t.Errorf("NullPlaces = %v, %d", list, code)
	}
	if list, code := impl.PlacesOn(3, impl.Place{1, 0, 1}); !slices.Equal(list, []impl.Place{{0, 1, 0}, {1, 0, 1}, {1, 1, 1}, {1, 2, 1}}) || code != impl.ErrNone {
		t.Errorf("PlacesOn = %v, %d", list, code)
	}
	if list, code := impl.MidpointsOf(3, impl.Place{0, 1, 0}, impl.Place{1, 1, 1}); !slices.Equal(list, []impl.Place{{0, 1, 0}, {1, 1, 1}, {1, 2, 1}}) || code != impl.ErrNone {
		t.Errorf("MidpointsOf = %v, %d", list, code)
	}
	if list, code := impl.CountByQuadrance(3, impl.Place{0, 0, 1}); !slices.Equal(list, []int64{1, 4, 4}) || code != impl.ErrNone {
		t.Errorf("CountByQuadrance = %v, %d", list, code)
	}
}
