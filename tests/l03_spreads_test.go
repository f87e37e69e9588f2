package tests

import (
	"slices"
	"testing"

	"loop.example/g01370/impl"
)

// quotientIn looks for the number whose product with b is a. There is none just if b is 0 and a is
// not.
func quotientIn(p, a, b int64) int64 {
	for n := range p {
		if mod(p, n*b-a) == 0 {
			return n
		}
	}
	return -1
}

// turned is the direction of a line, told by its numbers.
func turned(p int64, l impl.Line) impl.Point {
	return impl.Point{mod(p, -l[1]), mod(p, l[0])}
}

func isNull(p, c int64, l impl.Line) bool {
	d := turned(p, l)
	return productIn(p, c, d, d) == 0
}

func crossIn(p, c int64, l, m impl.Line) (int64, int64) {
	if isNull(p, c, l) || isNull(p, c, m) {
		return 0, impl.ErrState
	}
	d, e := turned(p, l), turned(p, m)
	n := productIn(p, c, d, e)
	return quotientIn(p, n*n, productIn(p, c, d, d)*productIn(p, c, e, e)), impl.ErrNone
}

// spreadOfWays is the spread told without the cross: by the square of the doubled area of two ways,
// with the other sign in red and green.
func spreadOfWays(p, c int64, d, e impl.Point) (int64, int64) {
	q := productIn(p, c, d, d) * productIn(p, c, e, e)
	if mod(p, q) == 0 {
		return 0, impl.ErrState
	}
	area := d[0]*e[1] - d[1]*e[0]
	if c == 0 {
		return quotientIn(p, area*area, q), impl.ErrNone
	}
	return quotientIn(p, -area*area, q), impl.ErrNone
}

func spreadIn(p, c int64, l, m impl.Line) (int64, int64) {
	return spreadOfWays(p, c, turned(p, l), turned(p, m))
}

func spreadAtIn(p, c int64, a, b, d impl.Point) (int64, int64) {
	return spreadOfWays(p, c, minus(p, b, a), minus(p, d, a))
}

// twoOfEachSlope returns for each direction a line through 0, 0, and another one.
func twoOfEachSlope(p int64) []impl.Line {
	list := []impl.Line{{0, 1, 0}, {0, 1, p - 1}}
	for b := range p {
		list = append(list, impl.Line{1, b, 0}, impl.Line{1, b, 1 + b%(p-1)})
	}
	return list
}

// spreadSamples has each function of the layer with arguments that have a result, and with those
// for which it returns ErrState, in some colour: Line{1, 1, 0} is null in red, Line{0, 1, 1} in green.
func spreadSamples() []sample {
	o, a, b, d := impl.Point{0, 0}, impl.Point{1, 0}, impl.Point{0, 1}, impl.Point{2, 0}
	l, m, n := impl.Line{1, 1, 0}, impl.Line{0, 1, 1}, impl.Line{1, 0, 2}
	list := []sample{
		sampleOf("AreTripleSpreads", impl.AreTripleSpreads, 1, 2, 2), sampleOf("AreTripleSpreads", impl.AreTripleSpreads, 0, 1, 2),
		sampleOf("ThirdSpreads", impl.ThirdSpreads, 1, 2), sampleOf("ThirdSpreads", impl.ThirdSpreads, 0, 0),
	}
	for _, c := range []colour{0, 1, 2} {
		for _, two := range [][2]impl.Line{{l, m}, {m, n}, {n, l}, {l, l}, {m, impl.Line{0, 1, 2}}, {m, impl.Line{1, 0, 0}}} {
			list = append(list,
				sampleOf("CrossOf", impl.CrossOf, c, two[0], two[1]), sampleOf("SpreadOf", impl.SpreadOf, c, two[0], two[1]),
				sampleOf("TwistOf", impl.TwistOf, c, two[0], two[1]), sampleOf("BisectorsOf", impl.BisectorsOf, c, two[0], two[1]))
		}
		for _, three := range [][3]impl.Point{{o, a, b}, {a, b, o}, {o, a, d}, {o, o, a}, {o, a, o}, {o, a, a}, {o, o, o}} {
			list = append(list,
				sampleOf("SpreadAt", impl.SpreadAt, c, three[0], three[1], three[2]),
				sampleOf("SpreadsOfTriangle", impl.SpreadsOfTriangle, c, three[0], three[1], three[2]),
				sampleOf("SpreadRatio", impl.SpreadRatio, c, three[0], three[1], three[2]))
		}
		for _, side := range []impl.Line{l, m, n} {
			list = append(list, sampleOf("LinesWithSpread", impl.LinesWithSpread, c, side, a, 2), sampleOf("CountBySpread", impl.CountBySpread, c, side))
		}
	}
	return list
}

func TestSpreadsInvalidFirst(t *testing.T) { checkInvalidFirst(t, spreadSamples()) }

func TestSpreadsRangeSecond(t *testing.T) { checkRangeSecond(t, spreadSamples()) }

// checkNullLine expects ErrState wherever a null line l stands, beside one that is not null or is.
func checkNullLine(t *testing.T, p int64, c colour, l, other impl.Line, a impl.Point) {
	t.Helper()
	for _, two := range [][]any{{c, l, other}, {c, other, l}, {c, l, l}} {
		wantCode(t, sampleOf("CrossOf", impl.CrossOf), p, two, impl.ErrState)
		wantCode(t, sampleOf("SpreadOf", impl.SpreadOf), p, two, impl.ErrState)
		wantCode(t, sampleOf("TwistOf", impl.TwistOf), p, two, impl.ErrState)
		wantCode(t, sampleOf("BisectorsOf", impl.BisectorsOf), p, two, impl.ErrState)
	}
	wantCode(t, sampleOf("CountBySpread", impl.CountBySpread), p, []any{c, l}, impl.ErrState)
	for s := range p {
		wantCode(t, sampleOf("LinesWithSpread", impl.LinesWithSpread), p, []any{c, l, a, s}, impl.ErrState)
	}
}

func TestSpreadsOfNullLines(t *testing.T) {
	inColours(func(p, c int64) {
		null := nullAmong(p, c, twoOfEachSlope(p))
		if hasNullLines(p, c) != (len(null) == 4) {
			t.Errorf("%d null lines in %d for %d", len(null), c, p)
		}
		for _, l := range null {
			for _, other := range thinned(twoOfEachSlope(p), 20) {
				checkNullLine(t, p, colour(c), l, other, impl.Point{1, 2})
			}
		}
	})
}

func TestSpreadsErrorsOfTheirOwn(t *testing.T) {
	o, a, b := impl.Point{0, 0}, impl.Point{1, 2}, impl.Point{2, 1}
	inColours(func(p, c int64) {
		for _, three := range [][]any{{colour(c), a, a, b}, {colour(c), a, b, a}, {colour(c), a, a, a}} {
			wantCode(t, sampleOf("SpreadAt", impl.SpreadAt), p, three, impl.ErrState)
		}
		for _, three := range [][]any{{colour(c), a, a, b}, {colour(c), a, b, a}, {colour(c), b, a, a}, {colour(c), a, a, a}, {colour(c), o, a, impl.Point{2, 4 % p}}} {
			wantCode(t, sampleOf("SpreadsOfTriangle", impl.SpreadsOfTriangle), p, three, impl.ErrState)
			wantCode(t, sampleOf("SpreadRatio", impl.SpreadRatio), p, three, impl.ErrState)
		}
		for _, l := range twoOfEachSlope(p) {
			for n := range p {
				wantCode(t, sampleOf("BisectorsOf", impl.BisectorsOf), p, []any{colour(c), l, impl.Line{l[0], l[1], n}}, impl.ErrState)
			}
			m, _ := impl.PerpendicularThrough(p, c, l, a)
			wantCode(t, sampleOf("TwistOf", impl.TwistOf), p, []any{colour(c), l, m}, impl.ErrState)
		}
	})
}

func checkTwoLines(t *testing.T, p, c int64, l, m impl.Line) {
	t.Helper()
	wantCross, wantCode := crossIn(p, c, l, m)
	cross, code := impl.CrossOf(p, c, l, m)
	if cross != wantCross || code != wantCode {
		t.Errorf("CrossOf(%d, %d, %v, %v) = %d, %d, want %d, %d", p, c, l, m, cross, code, wantCross, wantCode)
	}
	wantSpread, wantCode := spreadIn(p, c, l, m)
	spread, code := impl.SpreadOf(p, c, l, m)
	if spread != wantSpread || code != wantCode {
		t.Errorf("SpreadOf(%d, %d, %v, %v) = %d, %d, want %d, %d", p, c, l, m, spread, code, wantSpread, wantCode)
	}
	if code == impl.ErrNone && (spread+cross)%p != 1 {
		t.Errorf("the spread %d and the cross %d of %v and %v for %d in %d do not add up to 1", spread, cross, l, m, p, c)
	}
	if back, backCode := impl.SpreadOf(p, c, m, l); back != spread || backCode != code {
		t.Errorf("SpreadOf(%d, %d, %v, %v) = %d, %d, but %d, %d the other way", p, c, m, l, back, backCode, spread, code)
	}
	wantTwist, wantCode := int64(0), int64(impl.ErrState)
	if code == impl.ErrNone && wantCross != 0 {
		wantTwist, wantCode = quotientIn(p, wantSpread, wantCross), impl.ErrNone
	}
	if twist, code := impl.TwistOf(p, c, l, m); twist != wantTwist || code != wantCode {
		t.Errorf("TwistOf(%d, %d, %v, %v) = %d, %d, want %d, %d", p, c, l, m, twist, code, wantTwist, wantCode)
	}
}

func TestCrossesSpreadsAndTwists(t *testing.T) {
	inColours(func(p, c int64) {
		list := append(twoOfEachSlope(p), thinned(everyLine(p), 40)...)
		for _, l := range list {
			for _, m := range list {
				checkTwoLines(t, p, c, l, m)
			}
		}
	})
}

func TestSpreadsOfParallelsAndPerpendiculars(t *testing.T) {
	inColours(func(p, c int64) {
		for _, l := range twoOfEachSlope(p) {
			if isNull(p, c, l) {
				continue
			}
			for _, a := range thinned(everyPoint(p), 9) {
				parallel, code1 := impl.ParallelThrough(p, l, a)
				perpendicular, code2 := impl.PerpendicularThrough(p, c, l, a)
				if code1 != impl.ErrNone || code2 != impl.ErrNone {
					t.Fatalf("lines through %v: codes %d, %d", a, code1, code2)
				}
				if s, code := impl.SpreadOf(p, c, l, parallel); s != 0 || code != impl.ErrNone {
					t.Errorf("SpreadOf(%d, %d, %v, %v) = %d, %d for parallels", p, c, l, parallel, s, code)
				}
				if s, code := impl.SpreadOf(p, c, l, perpendicular); s != 1 || code != impl.ErrNone {
					t.Errorf("SpreadOf(%d, %d, %v, %v) = %d, %d for perpendiculars", p, c, l, perpendicular, s, code)
				}
				if twist, code := impl.TwistOf(p, c, l, parallel); twist != 0 || code != impl.ErrNone {
					t.Errorf("TwistOf(%d, %d, %v, %v) = %d, %d for parallels", p, c, l, parallel, twist, code)
				}
			}
		}
	})
}

// coloured calls check with the triples of points of all primes in each colour, and with triples two
// points of which are on a null line.
func coloured(check func(p, colour int64, a, b, c impl.Point)) {
	triples(func(p int64, a, b, c impl.Point) {
		for _, colour := range colours {
			check(p, colour, a, b, c)
		}
	})
	onNullLines(check)
}

// onNullLines calls check with triples two points of which are on a null line.
func onNullLines(check func(p, colour int64, a, b, c impl.Point)) {
	inColours(func(p, colour int64) {
		for _, l := range nullAmong(p, colour, twoOfEachSlope(p)) {
			row := pointsOfLine(p, l)
			a, b := row[0], row[len(row)/2]
			for _, c := range append(thinned(everyPoint(p), 30), row...) {
				check(p, colour, a, b, c)
				check(p, colour, b, c, a)
				check(p, colour, c, a, b)
			}
		}
	})
}

func TestSpreadAt(t *testing.T) {
	coloured(func(p, colour int64, a, b, c impl.Point) {
		want, wantCode := spreadAtIn(p, colour, a, b, c)
		s, code := impl.SpreadAt(p, colour, a, b, c)
		if s != want || code != wantCode {
			t.Errorf("SpreadAt(%d, %d, %v, %v, %v) = %d, %d, want %d, %d", p, colour, a, b, c, s, code, want, wantCode)
		}
		if a == b || a == c {
			return
		}
		l, _ := impl.LineThrough(p, a, b)
		m, _ := impl.LineThrough(p, a, c)
		if n, nCode := impl.SpreadOf(p, colour, l, m); n != s || nCode != code {
			t.Errorf("SpreadAt(%d, %d, %v, %v, %v) = %d, %d, but the lines have %d, %d", p, colour, a, b, c, s, code, n, nCode)
		}
	})
}

func areaIn(p int64, a, b, c impl.Point) int64 {
	d, e := minus(p, b, a), minus(p, c, a)
	return mod(p, d[0]*e[1]-d[1]*e[0])
}

// triangleSpreads says anew what the spreads of a triangle are, and ErrState where there are none.
func triangleSpreads(p, colour int64, a, b, c impl.Point) ([]int64, int64) {
	if areaIn(p, a, b, c) == 0 {
		return nil, impl.ErrState
	}
	atA, code1 := spreadAtIn(p, colour, a, b, c)
	atB, code2 := spreadAtIn(p, colour, b, a, c)
	atC, code3 := spreadAtIn(p, colour, c, a, b)
	if code1 != impl.ErrNone || code2 != impl.ErrNone || code3 != impl.ErrNone {
		return nil, impl.ErrState
	}
	return []int64{atA, atB, atC}, impl.ErrNone
}

// checkSpreadLaw holds the spreads of a triangle and its ratio against the quadrances of the sides.
func checkSpreadLaw(t *testing.T, p, colour int64, a, b, c impl.Point, spreads []int64, ratio int64) {
	t.Helper()
	ab, bc, ca := quadrancesOfThree(t, p, colour, a, b, c)
	for i, side := range []int64{bc, ca, ab} {
		if ratio < 0 || ratio >= p || ratio*side%p != spreads[i] {
			t.Errorf("spread %d of %v, %v, %v for %d in %d is %d, not the ratio %d times %d", i, a, b, c, p, colour, spreads[i], ratio, side)
		}
	}
	if yes, code := impl.AreTripleSpreads(p, spreads[0], spreads[1], spreads[2]); !yes || code != impl.ErrNone {
		t.Errorf("the spreads %v of %v, %v, %v for %d in %d are no triple spreads", spreads, a, b, c, p, colour)
	}
}

func TestTriangles(t *testing.T) {
	count := map[int64]int{}
	coloured(func(p, colour int64, a, b, c impl.Point) {
		want, wantCode := triangleSpreads(p, colour, a, b, c)
		spreads, code := impl.SpreadsOfTriangle(p, colour, a, b, c)
		if !slices.Equal(spreads, want) || code != wantCode {
			t.Errorf("SpreadsOfTriangle(%d, %d, %v, %v, %v) = %v, %d, want %v, %d", p, colour, a, b, c, spreads, code, want, wantCode)
			return
		}
		ratio, code := impl.SpreadRatio(p, colour, a, b, c)
		if code != wantCode || code != impl.ErrNone && ratio != 0 {
			t.Errorf("SpreadRatio(%d, %d, %v, %v, %v) = %d, %d, want code %d", p, colour, a, b, c, ratio, code, wantCode)
		}
		if code == impl.ErrNone {
			count[p]++
			checkSpreadLaw(t, p, colour, a, b, c, spreads, ratio)
		}
	})
	for _, p := range fields {
		if count[p] < 30 {
			t.Errorf("only %d triangles for %d", count[p], p)
		}
	}
}

// areTriple is the triple spread formula solved for t: the square of t less r + s - 2 r s is
// 4 r s (1 - r) (1 - s).
func areTriple(p, r, s, n int64) bool {
	d := n - r - s + 2*r*s
	return mod(p, d*d-4*r*s*(1-r)*(1-s)) == 0
}

func TestTripleSpreads(t *testing.T) {
	for _, p := range fields {
		for _, n := range everyNumbers(p) {
			if yes, code := impl.AreTripleSpreads(p, n[0], n[1], n[2]); yes != areTriple(p, n[0], n[1], n[2]) || code != impl.ErrNone {
				t.Errorf("AreTripleSpreads(%d, %v) = %v, %d", p, n, yes, code)
			}
		}
	}
}

func TestSpreadsOfThreeLinesAreTriple(t *testing.T) {
	inColours(func(p, c int64) {
		var list []impl.Line
		for _, l := range thinned(twoOfEachSlope(p), 24) {
			if !isNull(p, c, l) {
				list = append(list, l)
			}
		}
		for _, l := range list {
			for _, m := range list {
				for _, n := range list {
					r, code1 := impl.SpreadOf(p, c, l, m)
					s, code2 := impl.SpreadOf(p, c, m, n)
					u, code3 := impl.SpreadOf(p, c, n, l)
					yes, code := impl.AreTripleSpreads(p, r, s, u)
					if !yes || code1 != impl.ErrNone || code2 != impl.ErrNone || code3 != impl.ErrNone || code != impl.ErrNone {
						t.Errorf("spreads %d, %d, %d of %v, %v, %v for %d in %d are no triple spreads", r, s, u, l, m, n, p, c)
					}
				}
			}
		}
	})
}

func TestThirdSpreads(t *testing.T) {
	for _, p := range fields {
		for r := range p {
			for s := range p {
				var want, told []int64
				for n := range p {
					if areTriple(p, r, s, n) {
						want = append(want, n)
					}
					if yes, code := impl.AreTripleSpreads(p, r, s, n); yes && code == impl.ErrNone {
						told = append(told, n)
					}
				}
				list, code := impl.ThirdSpreads(p, r, s)
				if !slices.Equal(list, want) || !slices.Equal(list, told) || code != impl.ErrNone {
					t.Errorf("ThirdSpreads(%d, %d, %d) = %v, %d, want %v, AreTripleSpreads says %v", p, r, s, list, code, want, told)
				}
			}
		}
	}
}

// linesThrough keeps the order of everyLine, in which lines ascend.
func linesThrough(p int64, a impl.Point) []impl.Line {
	return slices.DeleteFunc(everyLine(p), func(l impl.Line) bool { return !on(p, a, l) })
}

// checkLinesWithSpread expects for each spread the lines through a that have it, and that together
// they are all that are not null.
func checkLinesWithSpread(t *testing.T, p, c int64, l impl.Line, a impl.Point) {
	t.Helper()
	want := make([][]impl.Line, p)
	rest := p + 1
	for _, m := range linesThrough(p, a) {
		if s, code := spreadIn(p, c, l, m); code == impl.ErrNone {
			want[s] = append(want[s], m)
		} else {
			rest--
		}
	}
	for s := range p {
		list, code := impl.LinesWithSpread(p, c, l, a, s)
		if !slices.Equal(list, want[s]) || code != impl.ErrNone {
			t.Errorf("LinesWithSpread(%d, %d, %v, %v, %d) = %v, %d, want %v", p, c, l, a, s, list, code, want[s])
		}
		for _, m := range list {
			if n, code := impl.SpreadOf(p, c, l, m); n != s || code != impl.ErrNone {
				t.Errorf("%v has the spread %d, %d with %v for %d in %d, not %d", m, n, code, l, p, c, s)
			}
		}
		rest -= int64(len(list))
	}
	if rest != 0 {
		t.Errorf("%d lines through %v are left by all spreads with %v for %d in %d", rest, a, l, p, c)
	}
}

func TestLinesWithSpread(t *testing.T) {
	inColours(func(p, c int64) {
		for _, l := range append(thinned(twoOfEachSlope(p), 6), thinned(everyLine(p), 5)...) {
			if isNull(p, c, l) {
				continue
			}
			for _, a := range append(thinned(everyPoint(p), 5), pointsOfLine(p, l)[1]) {
				checkLinesWithSpread(t, p, c, l, a)
			}
		}
	})
}

// bisectorsIn says anew what the bisectors of two lines are.
func bisectorsIn(p, c int64, l, m impl.Line) ([]impl.Line, int64) {
	both := slices.DeleteFunc(pointsOfLine(p, l), func(a impl.Point) bool { return !on(p, a, m) })
	if len(both) != 1 || isNull(p, c, l) || isNull(p, c, m) {
		return nil, impl.ErrState
	}
	var list []impl.Line
	for _, b := range linesThrough(p, both[0]) {
		r, code1 := spreadIn(p, c, b, l)
		s, code2 := spreadIn(p, c, b, m)
		if code1 == impl.ErrNone && code2 == impl.ErrNone && r == s {
			list = append(list, b)
		}
	}
	return list, impl.ErrNone
}

func checkBisectors(t *testing.T, p, c int64, l, m impl.Line) (found bool) {
	t.Helper()
	want, wantCode := bisectorsIn(p, c, l, m)
	list, code := impl.BisectorsOf(p, c, l, m)
	if !slices.Equal(list, want) || code != wantCode {
		t.Errorf("BisectorsOf(%d, %d, %v, %v) = %v, %d, want %v, %d", p, c, l, m, list, code, want, wantCode)
	}
	if back, backCode := impl.BisectorsOf(p, c, m, l); !slices.Equal(back, list) || backCode != code {
		t.Errorf("BisectorsOf(%d, %d, %v, %v) = %v, %d, but %v, %d the other way", p, c, m, l, back, backCode, list, code)
	}
	for _, b := range list {
		meet, _ := impl.MeetOf(p, l, m)
		r, code1 := impl.SpreadOf(p, c, b, l)
		s, code2 := impl.SpreadOf(p, c, b, m)
		through, code3 := impl.IsOnLine(p, meet, b)
		if r != s || !through || code1 != impl.ErrNone || code2 != impl.ErrNone || code3 != impl.ErrNone {
			t.Errorf("the bisector %v of %v, %v for %d in %d has the spreads %d, %d", b, l, m, p, c, r, s)
		}
	}
	return len(list) > 0
}

func TestBisectors(t *testing.T) {
	inColours(func(p, c int64) {
		count := 0
		for _, l := range append(thinned(everyLine(p), 20), impl.Line{1, 1, 0}, impl.Line{1, 0, 0}) {
			for _, m := range thinned(twoOfEachSlope(p), 24) {
				if checkBisectors(t, p, c, l, m) {
					count++
				}
			}
		}
		// For 3 there are only two slopes that are not null in red and green, and -1 is no square.
		if none := p == 3 && c != 0; none != (count == 0) {
			t.Errorf("%d pairs of lines with bisectors for %d in %d", count, p, c)
		}
	})
}

func TestBisectorsOfSmallPrimes(t *testing.T) {
	for _, p := range []int64{3, 5, 7} {
		for _, c := range colours {
			for _, l := range everyLine(p) {
				for _, m := range everyLine(p) {
					checkBisectors(t, p, c, l, m)
				}
			}
		}
	}
}

// checkCounts holds the numbers of lines against the lines with each spread through some points.
func checkCounts(t *testing.T, p, c int64, l impl.Line) {
	t.Helper()
	counts, code := impl.CountBySpread(p, c, l)
	if code != impl.ErrNone || int64(len(counts)) != p || counts[0] != 1 || counts[1] != 1 {
		t.Fatalf("CountBySpread(%d, %d, %v) = %v, %d", p, c, l, counts, code)
	}
	sum := p + 1
	if hasNullLines(p, c) {
		sum = p - 1
	}
	for s, count := range counts {
		sum -= count
		for _, a := range thinned(everyPoint(p), 3) {
			if list, code := impl.LinesWithSpread(p, c, l, a, int64(s)); int64(len(list)) != count || code != impl.ErrNone {
				t.Errorf("CountBySpread(%d, %d, %v) says %d for %d, but through %v there are %v, %d", p, c, l, count, s, a, list, code)
			}
		}
	}
	if sum != 0 {
		t.Errorf("CountBySpread(%d, %d, %v) = %v leaves %d lines", p, c, l, counts, sum)
	}
}

func TestCountBySpread(t *testing.T) {
	inColours(func(p, c int64) {
		for _, l := range append(thinned(twoOfEachSlope(p), 11), thinned(everyLine(p), 5)...) {
			if !isNull(p, c, l) {
				checkCounts(t, p, c, l)
			}
		}
	})
}

func TestSpreadListsAreNew(t *testing.T) {
	l, m, a, b, d := impl.Line{1, 0, 0}, impl.Line{0, 1, 0}, impl.Point{0, 0}, impl.Point{1, 0}, impl.Point{0, 1}
	numbers := func() [][]int64 {
		spreads, _ := impl.SpreadsOfTriangle(7, 0, a, b, d)
		thirds, _ := impl.ThirdSpreads(7, 1, 4)
		counts, _ := impl.CountBySpread(7, 0, l)
		return [][]int64{spreads, thirds, counts}
	}
	lines := func() [][]impl.Line {
		with, _ := impl.LinesWithSpread(7, 0, l, a, 5)
		bisectors, _ := impl.BisectorsOf(7, 0, l, m)
		return [][]impl.Line{with, bisectors}
	}
	wantNumbers := [][]int64{{1, 4, 4}, {4}, {1, 1, 0, 2, 2, 2, 0}}
	wantLines := [][]impl.Line{{{1, 2, 0}, {1, 5, 0}}, {{1, 1, 0}, {1, 6, 0}}}
	firstNumbers, firstLines := numbers(), lines()
	for range 2 {
		otherNumbers, otherLines := numbers(), lines()
		for i, want := range wantNumbers {
			if !slices.Equal(otherNumbers[i], want) || !slices.Equal(firstNumbers[i], want) {
				t.Errorf("%v and %v, want %v", firstNumbers[i], otherNumbers[i], want)
			}
			clear(otherNumbers[i][:cap(otherNumbers[i])])
		}
		for i, want := range wantLines {
			if !slices.Equal(otherLines[i], want) || !slices.Equal(firstLines[i], want) {
				t.Errorf("%v and %v, want %v", firstLines[i], otherLines[i], want)
			}
			clear(otherLines[i][:cap(otherLines[i])])
		}
	}
}

func TestLayer3Examples(t *testing.T) {
	l, m := impl.Line{1, 0, 0}, impl.Line{1, 3, 0}
	cross, code1 := impl.CrossOf(11, 1, l, m)
	spread, code2 := impl.SpreadOf(11, 1, l, m)
	twist, code3 := impl.TwistOf(11, 1, l, m)
	if cross != 4 || code1 != impl.ErrNone || spread != 8 || code2 != impl.ErrNone || twist != 2 || code3 != impl.ErrNone {
		t.Errorf("CrossOf = %d, %d, SpreadOf = %d, %d, TwistOf = %d, %d", cross, code1, spread, code2, twist, code3)
	}
	o, a, b := impl.Point{0, 0}, impl.Point{1, 1}, impl.Point{3, 2}
	if list, code := impl.SpreadsOfTriangle(11, 2, o, a, b); !slices.Equal(list, []int64{5, 4, 8}) || code != impl.ErrNone {
		t.Errorf("SpreadsOfTriangle = %v, %d", list, code)
	}
	if ratio, code := impl.SpreadRatio(11, 2, o, a, b); ratio != 4 || code != impl.ErrNone {
		t.Errorf("SpreadRatio = %d, %d", ratio, code)
	}
	// The bisectors of the axes have directions x, y with y y = x x in blue, and y y = - x x in red:
	// for 5 there are such ones, for 7 there are none.
	flat := impl.Line{0, 1, 0}
	if list, code := impl.BisectorsOf(5, 0, l, flat); !slices.Equal(list, []impl.Line{{1, 1, 0}, {1, 4, 0}}) || code != impl.ErrNone {
		t.Errorf("BisectorsOf in blue = %v, %d", list, code)
	}
	if list, code := impl.BisectorsOf(5, 1, l, flat); !slices.Equal(list, []impl.Line{{1, 2, 0}, {1, 3, 0}}) || code != impl.ErrNone {
		t.Errorf("BisectorsOf in red = %v, %d", list, code)
	}
	if list, code := impl.BisectorsOf(7, 1, l, flat); len(list) != 0 || code != impl.ErrNone {
		t.Errorf("BisectorsOf in red = %v, %d", list, code)
	}
}
