package tests

import (
	"fmt"
	"slices"
	"strings"
	"testing"

	"loop.example/g01370/impl"
)

// on and the lists below say anew, without the program, what a line and its points are.
func on(p int64, a impl.Point, l impl.Line) bool {
	return (l[0]*a[0]+l[1]*a[1]+l[2])%p == 0
}

func everyPoint(p int64) []impl.Point {
	var list []impl.Point
	for x := range p {
		for y := range p {
			list = append(list, impl.Point{x, y})
		}
	}
	return list
}

func everyLine(p int64) []impl.Line {
	var list []impl.Line
	for c := range p {
		list = append(list, impl.Line{0, 1, c})
	}
	for b := range p {
		for c := range p {
			list = append(list, impl.Line{1, b, c})
		}
	}
	return list
}

// thinned keeps about n of the elements of a list, the first and the last ones among them.
func thinned[T any](list []T, n int) []T {
	var kept []T
	step := max(1, len(list)/n)
	for i := 0; i < len(list); i += step {
		kept = append(kept, list[i])
	}
	return append(kept, list[len(list)-1])
}

// isLine tells whether a result is a line, whatever points it has.
func isLine(p int64, l impl.Line) bool {
	return slices.Contains(everyLine(p), l)
}

func TestErrorCodes(t *testing.T) {
	codes := []int64{impl.ErrNone, impl.ErrInvalid, impl.ErrRange, impl.ErrLimit, impl.ErrNotFound, impl.ErrState, impl.ErrSyntax}
	if !slices.Equal(codes, []int64{0, 1, 2, 3, 4, 5, 6}) {
		t.Errorf("codes %v", codes)
	}
	if impl.MaxPrime != 31 {
		t.Errorf("MaxPrime is %d", impl.MaxPrime)
	}
}

func TestIsField(t *testing.T) {
	for _, p := range fields {
		if !impl.IsField(p) {
			t.Errorf("IsField(%d) is false", p)
		}
	}
	for _, p := range notFields() {
		if impl.IsField(p) {
			t.Errorf("IsField(%d) is true", p)
		}
	}
}

// pointSamples has each function of the layer, with arguments that have a result and with those
// for which it returns each of its own errors.
func pointSamples() []sample {
	o, a, b := impl.Point{0, 0}, impl.Point{1, 2}, impl.Point{2, 2}
	l, m := impl.Line{1, 2, 0}, impl.Line{0, 1, 1}
	return []sample{
		sampleOf("InverseOf", impl.InverseOf, 1), sampleOf("InverseOf", impl.InverseOf, 0),
		sampleOf("SquareKind", impl.SquareKind, 1), sampleOf("SquareKind", impl.SquareKind, 2),
		sampleOf("RootOf", impl.RootOf, 1), sampleOf("RootOf", impl.RootOf, 2),
		sampleOf("LineOf", impl.LineOf, 2, 1, 0), sampleOf("LineOf", impl.LineOf, 0, 0, 1),
		sampleOf("LineThrough", impl.LineThrough, a, b), sampleOf("LineThrough", impl.LineThrough, a, a),
		sampleOf("IsOnLine", impl.IsOnLine, o, l), sampleOf("IsOnLine", impl.IsOnLine, a, m),
		sampleOf("MeetOf", impl.MeetOf, l, m), sampleOf("MeetOf", impl.MeetOf, l, l),
		sampleOf("MeetOf", impl.MeetOf, l, impl.Line{1, 2, 1}),
		sampleOf("ParallelThrough", impl.ParallelThrough, l, b),
		sampleOf("AreParallel", impl.AreParallel, l, m), sampleOf("AreParallel", impl.AreParallel, l, l),
		sampleOf("PointsOn", impl.PointsOn, l), sampleOf("LinesThrough", impl.LinesThrough, a),
		sampleOf("AreCollinear", impl.AreCollinear, o, a, b), sampleOf("AreCollinear", impl.AreCollinear, a, a, a),
		sampleOf("CombinationOf", impl.CombinationOf, a, b, 2),
		sampleOf("RatioOf", impl.RatioOf, a, b, a), sampleOf("RatioOf", impl.RatioOf, a, a, b),
		sampleOf("RatioOf", impl.RatioOf, a, b, o), sampleOf("RatioOf", impl.RatioOf, a, a, a),
		sampleOf("MidpointOf", impl.MidpointOf, a, b), sampleOf("DoubledArea", impl.DoubledArea, o, a, b),
		sampleOf("PointText", impl.PointText, a), sampleOf("LineText", impl.LineText, l),
		sampleOf("ParsePoint", impl.ParsePoint, "1,2"), sampleOf("ParsePoint", impl.ParsePoint, ""),
		sampleOf("ParseLine", impl.ParseLine, "1,2,0"), sampleOf("ParseLine", impl.ParseLine, "0,0,1"),
	}
}

func TestPointsInvalidFirst(t *testing.T) { checkInvalidFirst(t, pointSamples()) }

func TestPointsRangeSecond(t *testing.T) { checkRangeSecond(t, pointSamples()) }

func TestPointsErrorsOfTheirOwn(t *testing.T) {
	a, b := impl.Point{1, 2}, impl.Point{2, 0}
	l := impl.Line{1, 2, 0}
	for _, p := range fields {
		wantCode(t, sampleOf("InverseOf", impl.InverseOf), p, []any{int64(0)}, impl.ErrState)
		wantCode(t, sampleOf("LineThrough", impl.LineThrough), p, []any{a, a}, impl.ErrState)
		wantCode(t, sampleOf("MeetOf", impl.MeetOf), p, []any{l, l}, impl.ErrState)
		wantCode(t, sampleOf("MeetOf", impl.MeetOf), p, []any{l, impl.Line{1, 2, p - 1}}, impl.ErrState)
		wantCode(t, sampleOf("RatioOf", impl.RatioOf), p, []any{a, a, a}, impl.ErrState)
		wantCode(t, sampleOf("RatioOf", impl.RatioOf), p, []any{a, a, b}, impl.ErrState)
		for c := range p {
			wantCode(t, sampleOf("LineOf", impl.LineOf), p, []any{int64(0), int64(0), c}, impl.ErrState)
		}
	}
}

func TestInverses(t *testing.T) {
	for _, p := range fields {
		for a := int64(1); a < p; a++ {
			b, code := impl.InverseOf(p, a)
			if code != impl.ErrNone || b < 0 || b >= p || a*b%p != 1 {
				t.Errorf("InverseOf(%d, %d) = %d, %d", p, a, b, code)
			}
		}
	}
}

// leastRoot returns -1 if there is none.
func leastRoot(p, a int64) int64 {
	least := int64(-1)
	for r := p - 1; r >= 0; r-- {
		if r*r%p == a {
			least = r
		}
	}
	return least
}

func TestSquaresAndRoots(t *testing.T) {
	for _, p := range fields {
		for a := range p {
			wantRoot, wantKind, wantCode := leastRoot(p, a), int64(1), int64(impl.ErrNone)
			if a == 0 {
				wantKind = 0
			}
			if wantRoot < 0 {
				wantRoot, wantKind, wantCode = 0, -1, impl.ErrNotFound
			}
			if k, code := impl.SquareKind(p, a); k != wantKind || code != impl.ErrNone {
				t.Errorf("SquareKind(%d, %d) = %d, %d", p, a, k, code)
			}
			if r, code := impl.RootOf(p, a); r != wantRoot || code != wantCode {
				t.Errorf("RootOf(%d, %d) = %d, %d", p, a, r, code)
			}
		}
	}
}

// makes tells whether three numbers are those of a line times one number.
func makes(p, a, b, c int64, l impl.Line) bool {
	for k := int64(1); k < p; k++ {
		if l[0]*k%p == a && l[1]*k%p == b && l[2]*k%p == c {
			return true
		}
	}
	return false
}

func TestLineOf(t *testing.T) {
	for _, p := range fields {
		for _, n := range thinned(everyNumbers(p), 400) {
			a, b, c := n[0], n[1], n[2]
			if a == 0 && b == 0 {
				continue
			}
			l, code := impl.LineOf(p, a, b, c)
			if code != impl.ErrNone || !isLine(p, l) || !makes(p, a, b, c, l) {
				t.Errorf("LineOf(%d, %d, %d, %d) = %v, %d", p, a, b, c, l, code)
			}
		}
	}
}

func everyNumbers(p int64) [][3]int64 {
	var list [][3]int64
	for n := range p * p * p {
		list = append(list, [3]int64{n / p / p, n / p % p, n % p})
	}
	return list
}

func checkLineThrough(t *testing.T, p int64, a, b impl.Point, lines []impl.Line) {
	t.Helper()
	var both []impl.Line
	for _, l := range lines {
		if on(p, a, l) && on(p, b, l) {
			both = append(both, l)
		}
	}
	want, wantCode := impl.Line{}, int64(impl.ErrState)
	if a != b {
		want, wantCode = both[0], impl.ErrNone
	}
	if l, code := impl.LineThrough(p, a, b); l != want || code != wantCode {
		t.Errorf("LineThrough(%d, %v, %v) = %v, %d, want %v, %d", p, a, b, l, code, want, wantCode)
	}
}

func TestLineThrough(t *testing.T) {
	for _, p := range fields {
		lines := everyLine(p)
		for _, a := range thinned(everyPoint(p), 60) {
			for _, b := range thinned(everyPoint(p), 55) {
				checkLineThrough(t, p, a, b, lines)
			}
		}
	}
}

func TestIsOnLine(t *testing.T) {
	for _, p := range fields {
		for _, a := range thinned(everyPoint(p), 200) {
			for _, l := range everyLine(p) {
				if yes, code := impl.IsOnLine(p, a, l); yes != on(p, a, l) || code != impl.ErrNone {
					t.Errorf("IsOnLine(%d, %v, %v) = %v, %d", p, a, l, yes, code)
				}
			}
		}
	}
}

func checkMeet(t *testing.T, p int64, l, m impl.Line, points []impl.Point) {
	t.Helper()
	var both []impl.Point
	for _, a := range points {
		if on(p, a, l) && on(p, a, m) {
			both = append(both, a)
		}
	}
	want, wantCode, parallel := impl.Point{}, int64(impl.ErrState), true
	if len(both) == 1 {
		want, wantCode, parallel = both[0], impl.ErrNone, false
	}
	if a, code := impl.MeetOf(p, l, m); a != want || code != wantCode {
		t.Errorf("MeetOf(%d, %v, %v) = %v, %d, want %v, %d", p, l, m, a, code, want, wantCode)
	}
	if yes, code := impl.AreParallel(p, l, m); yes != parallel || code != impl.ErrNone {
		t.Errorf("AreParallel(%d, %v, %v) = %v, %d", p, l, m, yes, code)
	}
}

// The two lists have all lines of the primes to 7. In those of the others equal and parallel
// lines are rare, so that the lines parallel to the axes and to one more are added.
func TestMeetsAndParallels(t *testing.T) {
	for _, p := range fields {
		points := everyPoint(p)
		few := []impl.Line{{0, 1, 0}, {0, 1, p - 1}, {1, 0, 0}, {1, 0, p - 1}, {1, 2, 1}, {1, 2, p - 1}}
		for _, l := range append(thinned(everyLine(p), 60), few...) {
			for _, m := range append(thinned(everyLine(p), 57), few...) {
				checkMeet(t, p, l, m, points)
			}
		}
	}
}

func TestParallelThrough(t *testing.T) {
	for _, p := range fields {
		for _, l := range thinned(everyLine(p), 60) {
			for _, a := range thinned(everyPoint(p), 60) {
				m, code := impl.ParallelThrough(p, l, a)
				apart := m != l && slices.ContainsFunc(everyPoint(p), func(b impl.Point) bool { return on(p, b, l) && on(p, b, m) })
				if code != impl.ErrNone || !isLine(p, m) || !on(p, a, m) || apart || on(p, a, l) != (m == l) {
					t.Errorf("ParallelThrough(%d, %v, %v) = %v, %d", p, l, a, m, code)
				}
			}
		}
	}
}

func TestPointsOn(t *testing.T) {
	for _, p := range fields {
		points := everyPoint(p)
		for _, l := range everyLine(p) {
			var want []impl.Point
			for _, a := range points {
				if on(p, a, l) {
					want = append(want, a)
				}
			}
			list, code := impl.PointsOn(p, l)
			if code != impl.ErrNone || int64(len(list)) != p || !slices.Equal(list, want) {
				t.Errorf("PointsOn(%d, %v) = %v, %d", p, l, list, code)
			}
		}
	}
}

func TestLinesThrough(t *testing.T) {
	for _, p := range fields {
		lines := everyLine(p)
		for _, a := range everyPoint(p) {
			var want []impl.Line
			for _, l := range lines {
				if on(p, a, l) {
					want = append(want, l)
				}
			}
			list, code := impl.LinesThrough(p, a)
			if code != impl.ErrNone || int64(len(list)) != p+1 || !slices.Equal(list, want) {
				t.Errorf("LinesThrough(%d, %v) = %v, %d", p, a, list, code)
			}
		}
	}
}

// triples calls check with some points of each prime, all of them for 3, 5 and 7, and with some that
// are on one line.
func triples(check func(p int64, a, b, c impl.Point)) {
	for _, p := range fields {
		some := thinned(everyPoint(p), 25)
		for _, a := range some {
			for _, b := range some {
				for _, c := range some {
					check(p, a, b, c)
				}
			}
		}
		for _, l := range thinned(everyLine(p), 20) {
			row := slices.DeleteFunc(everyPoint(p), func(a impl.Point) bool { return !on(p, a, l) })
			for i := range row {
				check(p, row[i], row[0], row[len(row)-1])
				check(p, row[1], row[i], row[len(row)/2])
			}
		}
	}
}

func TestCollinearAndArea(t *testing.T) {
	lines := map[int64][]impl.Line{}
	for _, p := range fields {
		lines[p] = everyLine(p)
	}
	triples(func(p int64, a, b, c impl.Point) {
		one := slices.ContainsFunc(lines[p], func(l impl.Line) bool { return on(p, a, l) && on(p, b, l) && on(p, c, l) })
		if yes, code := impl.AreCollinear(p, a, b, c); yes != one || code != impl.ErrNone {
			t.Errorf("AreCollinear(%d, %v, %v, %v) = %v, %d", p, a, b, c, yes, code)
		}
		want := (a[0]*(b[1]-c[1]) + b[0]*(c[1]-a[1]) + c[0]*(a[1]-b[1])) % p
		if want < 0 {
			want += p
		}
		if n, code := impl.DoubledArea(p, a, b, c); n != want || code != impl.ErrNone {
			t.Errorf("DoubledArea(%d, %v, %v, %v) = %d, %d, want %d", p, a, b, c, n, code, want)
		}
	})
}

// mixed is the combination written the other way: (1 - t) A + t B, with p + 1 for 1.
func mixed(p int64, a, b impl.Point, t int64) impl.Point {
	return impl.Point{((p+1-t)*a[0] + t*b[0]) % p, ((p+1-t)*a[1] + t*b[1]) % p}
}

func TestCombinationsAndMidpoints(t *testing.T) {
	for _, p := range fields {
		for _, a := range thinned(everyPoint(p), 50) {
			for _, b := range thinned(everyPoint(p), 47) {
				for n := range p {
					if c, code := impl.CombinationOf(p, a, b, n); c != mixed(p, a, b, n) || code != impl.ErrNone {
						t.Errorf("CombinationOf(%d, %v, %v, %d) = %v, %d", p, a, b, n, c, code)
					}
				}
				m, code := impl.MidpointOf(p, a, b)
				twice := impl.Point{2 * m[0] % p, 2 * m[1] % p}
				sum := impl.Point{(a[0] + b[0]) % p, (a[1] + b[1]) % p}
				if code != impl.ErrNone || twice != sum || min(m[0], m[1]) < 0 || max(m[0], m[1]) >= p {
					t.Errorf("MidpointOf(%d, %v, %v) = %v, %d", p, a, b, m, code)
				}
			}
		}
	}
}

func TestRatios(t *testing.T) {
	triples(func(p int64, a, b, c impl.Point) {
		want, wantCode := int64(0), int64(impl.ErrState)
		for n := range p {
			if a != b && mixed(p, a, b, n) == c {
				want, wantCode = n, impl.ErrNone
			}
		}
		if n, code := impl.RatioOf(p, a, b, c); n != want || code != wantCode {
			t.Errorf("RatioOf(%d, %v, %v, %v) = %d, %d, want %d, %d", p, a, b, c, n, code, want, wantCode)
		}
	})
}

func TestPointTexts(t *testing.T) {
	for _, p := range fields {
		for _, a := range everyPoint(p) {
			text, code := impl.PointText(p, a)
			if text != fmt.Sprintf("%d,%d", a[0], a[1]) || code != impl.ErrNone {
				t.Errorf("PointText(%d, %v) = %q, %d", p, a, text, code)
			}
			if b, code := impl.ParsePoint(p, text); b != a || code != impl.ErrNone {
				t.Errorf("ParsePoint(%d, %q) = %v, %d", p, text, b, code)
			}
		}
	}
}

func TestLineTexts(t *testing.T) {
	for _, p := range fields {
		for _, l := range everyLine(p) {
			text, code := impl.LineText(p, l)
			if text != fmt.Sprintf("%d,%d,%d", l[0], l[1], l[2]) || code != impl.ErrNone {
				t.Errorf("LineText(%d, %v) = %q, %d", p, l, text, code)
			}
			if m, code := impl.ParseLine(p, text); m != l || code != impl.ErrNone {
				t.Errorf("ParseLine(%d, %q) = %v, %d", p, text, m, code)
			}
		}
	}
}

// notNumbers returns words that are no number modulo p, such as those that are one only once they
// are cut to 8, 32 or 64 bits.
func notNumbers(p int64) []string {
	return []string{"", "00", "01", "001", "-0", "-1", "+0", "+1", " 1", "1 ", "\t1", "1\n", "\x001", "1\x00", "a", "0x1", "0b1", "0o1",
		"1_0", "1e0", "1.0", "1.", "\uff11", "\u0661", "\xff", ";", fmt.Sprint(p), fmt.Sprint(p + 1), fmt.Sprint(-p), fmt.Sprint(10 * p),
		"37", "99", "100", "257", "4294967297", "9223372036854775807", "9223372036854775808", "18446744073709551617",
		"-9223372036854775808", strings.Repeat("9", 10000), strings.Repeat("0", 10000), strings.Repeat("0", 10000) + "1"}
}

func TestTextsOfNothing(t *testing.T) {
	for _, p := range fields {
		points := []string{"", ",", "1", "1,", ",1", "1,2,", ",1,2", "1,,2", "1,2,0", "1 2", "1;2", "(1,2)", "1,2\n", " 1,2", "1, 2", "1,2 ",
			strings.Repeat(",", 10000), strings.Repeat("1,", 10000) + "1"}
		lines := []string{"", ",", ",,", "1", "1,0", "1,0,", ",1,0", "1,,0", "1,0,0,", ",1,0,0", "1,0,0,0", "1 0 0", "1, 0,0", "1,0,0\n",
			"0,0,0", "0,0,1", "2,0,0", "2,1,0", "0,2,0", "0,2,1", fmt.Sprintf("%d,1,0", p-1), fmt.Sprintf("0,%d,1", p-1), strings.Repeat("1,", 10000)}
		for _, word := range notNumbers(p) {
			points = append(points, word+",1", "1,"+word, word+","+word)
			lines = append(lines, word+",1,1", "1,"+word+",1", "0,"+word+",1", "1,1,"+word, "0,1,"+word)
		}
		for _, text := range points {
			wantCode(t, sampleOf("ParsePoint", impl.ParsePoint), p, []any{text}, impl.ErrSyntax)
		}
		for _, text := range lines {
			wantCode(t, sampleOf("ParseLine", impl.ParseLine), p, []any{text}, impl.ErrSyntax)
		}
	}
}

// textsOf returns all texts of at most n of the bytes told.
func textsOf(bytes string, n int) []string {
	list, longest := []string{""}, []string{""}
	for range n {
		var longer []string
		for _, text := range longest {
			for i := range len(bytes) {
				longer = append(longer, text+bytes[i:i+1])
			}
		}
		list, longest = append(list, longer...), longer
	}
	return list
}

// Of all short texts just those of the points and lines have one.
func TestAllShortTexts(t *testing.T) {
	for _, p := range []int64{3, 11, 13} {
		points, lines := map[string]impl.Point{}, map[string]impl.Line{}
		for _, a := range everyPoint(p) {
			points[fmt.Sprintf("%d,%d", a[0], a[1])] = a
		}
		for _, l := range everyLine(p) {
			lines[fmt.Sprintf("%d,%d,%d", l[0], l[1], l[2])] = l
		}
		for _, text := range textsOf("0123,-+ ", 5) {
			want, found := points[text]
			if a, code := impl.ParsePoint(p, text); a != want || (code == impl.ErrNone) != found {
				t.Errorf("ParsePoint(%d, %q) = %v, %d", p, text, a, code)
			}
		}
		for _, text := range textsOf("012,-", 6) {
			want, found := lines[text]
			if l, code := impl.ParseLine(p, text); l != want || (code == impl.ErrNone) != found {
				t.Errorf("ParseLine(%d, %q) = %v, %d", p, text, l, code)
			}
		}
	}
}

func TestListsAreNew(t *testing.T) {
	l, a := impl.Line{1, 2, 0}, impl.Point{1, 2}
	points, _ := impl.PointsOn(7, l)
	lines, _ := impl.LinesThrough(7, a)
	keptPoints, keptLines := slices.Clone(points), slices.Clone(lines)
	otherPoints, _ := impl.PointsOn(7, l)
	otherLines, _ := impl.LinesThrough(7, a)
	clear(otherPoints[:cap(otherPoints)])
	clear(otherLines[:cap(otherLines)])
	if !slices.Equal(points, keptPoints) || !slices.Equal(lines, keptLines) {
		t.Error("two results share memory")
	}
	againPoints, _ := impl.PointsOn(7, l)
	againLines, _ := impl.LinesThrough(7, a)
	if !slices.Equal(againPoints, keptPoints) || !slices.Equal(againLines, keptLines) {
		t.Error("a result depends on what was done with another one")
	}
}

func TestLayer1Examples(t *testing.T) {
	l, code := impl.LineThrough(5, impl.Point{0, 0}, impl.Point{1, 2})
	if l != (impl.Line{1, 2, 0}) || code != impl.ErrNone {
		t.Errorf("LineThrough = %v, %d", l, code)
	}
	if text, code := impl.LineText(5, l); text != "1,2,0" || code != impl.ErrNone {
		t.Errorf("LineText = %q, %d", text, code)
	}
}
