package impl

import (
	"iter"
	"maps"
	"slices"
	"strconv"
	"strings"
)

const (
	ErrNone = iota
	ErrInvalid
	ErrRange
	ErrLimit
	ErrNotFound
	ErrState
	ErrSyntax
)
const MaxPrime = 31

type Point [2]int64

type Line [3]int64

// IsField reports whether p is one of the primes.
func IsField(p int64) bool {
	switch p {
	case 3, 5, 7, 11, 13, 17, 19, 23, 29, MaxPrime:
		return true
	}
	return false
}

// InverseOf returns the inverse of a number, and ErrNone. Errors: ErrState if it is 0.
func InverseOf(p int64, a int64) (int64, int64) {
	if code := codeFor(p, areNumbers(p, a)); code != ErrNone {
		return 0, code
	}
	if a == 0 {
		return 0, ErrState
	}
	return inverse(p, a), ErrNone
}

// SquareKind returns 0 for the number 0, 1 for another square, and -1 for a number that is no
// square, and ErrNone.
func SquareKind(p int64, a int64) (int64, int64) {
	if code := codeFor(p, areNumbers(p, a)); code != ErrNone {
		return 0, code
	}
	if a == 0 {
		return 0, ErrNone
	}
	if _, found := leastRoot(p, a); !found {
		return -1, ErrNone
	}
	return 1, ErrNone
}

// RootOf returns the root of a number, and ErrNone. Errors: ErrNotFound if it is no square.
func RootOf(p int64, a int64) (int64, int64) {
	if code := codeFor(p, areNumbers(p, a)); code != ErrNone {
		return 0, code
	}
	root, found := leastRoot(p, a)
	if !found {
		return 0, ErrNotFound
	}
	return root, ErrNone
}

// LineOf returns the line that three numbers make, and ErrNone. Errors: ErrState if a and b are 0.
func LineOf(p int64, a int64, b int64, c int64) (Line, int64) {
	if code := codeFor(p, areNumbers(p, a, b, c)); code != ErrNone {
		return Line{}, code
	}
	if a == 0 && b == 0 {
		return Line{}, ErrState
	}
	return lineMadeBy(p, a, b, c), ErrNone
}

// LineThrough returns the line on which two points are, and ErrNone. Errors: ErrState if they are
// equal.
func LineThrough(p int64, a Point, b Point) (Line, int64) {
	if code := codeFor(p, arePoints(p, a, b)); code != ErrNone {
		return Line{}, code
	}
	if a == b {
		return Line{}, ErrState
	}
	return lineThrough(p, a, b), ErrNone
}

// IsOnLine reports whether a point is on a line, and returns ErrNone.
func IsOnLine(p int64, a Point, l Line) (bool, int64) {
	if code := codeFor(p, arePoints(p, a) && areLines(p, l)); code != ErrNone {
		return false, code
	}
	return isOnLine(p, a, l), ErrNone
}

// MeetOf returns the point in which two lines meet, and ErrNone. Errors: ErrState if they are
// parallel.
func MeetOf(p int64, l Line, m Line) (Point, int64) {
	if code := codeFor(p, areLines(p, l, m)); code != ErrNone {
		return Point{}, code
	}
	if slopeOf(l) == slopeOf(m) {
		return Point{}, ErrState
	}
	divide := inverse(p, rest(p, l[0]*m[1]-m[0]*l[1]))
	x := rest(p, l[1]*m[2]-m[1]*l[2])
	y := rest(p, l[2]*m[0]-m[2]*l[0])
	return Point{x * divide % p, y * divide % p}, ErrNone
}

// ParallelThrough returns the line through a point that is parallel to a line, and ErrNone.
func ParallelThrough(p int64, l Line, a Point) (Line, int64) {
	if code := codeFor(p, areLines(p, l) && arePoints(p, a)); code != ErrNone {
		return Line{}, code
	}
	return Line{l[0], l[1], rest(p, -l[0]*a[0]-l[1]*a[1])}, ErrNone
}

// AreParallel reports whether two lines are parallel, and returns ErrNone.
func AreParallel(p int64, l Line, m Line) (bool, int64) {
	if code := codeFor(p, areLines(p, l, m)); code != ErrNone {
		return false, code
	}
	return slopeOf(l) == slopeOf(m), ErrNone
}

// PointsOn returns the points of a line, in order, and ErrNone.
func PointsOn(p int64, l Line) ([]Point, int64) {
	if code := codeFor(p, areLines(p, l)); code != ErrNone {
		return nil, code
	}
	points := make([]Point, 0, p)
	for a := range pointsOf(p, l) {
		points = append(points, a)
	}
	return points, ErrNone
}

// LinesThrough returns the lines on which a point is, in order, and ErrNone.
func LinesThrough(p int64, a Point) ([]Line, int64) {
	if code := codeFor(p, arePoints(p, a)); code != ErrNone {
		return nil, code
	}
	lines := map[Line]bool{}
	for b := range allPoints(p) {
		if b != a {
			lines[lineThrough(p, a, b)] = true
		}
	}
	return slices.SortedFunc(maps.Keys(lines), compareLines), ErrNone
}

// AreCollinear reports whether three points are on one line, and returns ErrNone.
func AreCollinear(p int64, a Point, b Point, c Point) (bool, int64) {
	if code := codeFor(p, arePoints(p, a, b, c)); code != ErrNone {
		return false, code
	}
	return doubledArea(p, a, b, c) == 0, ErrNone
}

// CombinationOf returns the combination of a and b with a number t, and ErrNone.
func CombinationOf(p int64, a Point, b Point, t int64) (Point, int64) {
	if code := codeFor(p, arePoints(p, a, b) && areNumbers(p, t)); code != ErrNone {
		return Point{}, code
	}
	return combination(p, a, b, t), ErrNone
}

// RatioOf returns the number t for which c is the combination of a and b, and ErrNone. Errors:
// ErrState if a and b are equal, or there is none.
func RatioOf(p int64, a Point, b Point, c Point) (int64, int64) {
	if code := codeFor(p, arePoints(p, a, b, c)); code != ErrNone {
		return 0, code
	}
	if a == b {
		return 0, ErrState
	}
	t, found := ratiosBetween(p, a, b)[c]
	if !found {
		return 0, ErrState
	}
	return t, ErrNone
}

// MidpointOf returns the midpoint of two points, and ErrNone.
func MidpointOf(p int64, a Point, b Point) (Point, int64) {
	if code := codeFor(p, arePoints(p, a, b)); code != ErrNone {
		return Point{}, code
	}
	return combination(p, a, b, inverse(p, 2)), ErrNone
}

// DoubledArea returns the doubled area of a, b and c, and ErrNone.
func DoubledArea(p int64, a Point, b Point, c Point) (int64, int64) {
	if code := codeFor(p, arePoints(p, a, b, c)); code != ErrNone {
		return 0, code
	}
	return doubledArea(p, a, b, c), ErrNone
}

// PointText returns the text of a point, and ErrNone.
func PointText(p int64, a Point) (string, int64) {
	if code := codeFor(p, arePoints(p, a)); code != ErrNone {
		return "", code
	}
	return textOf(a[:]), ErrNone
}

// ParsePoint returns the point with a text, and ErrNone. Errors: ErrSyntax if there is none.
func ParsePoint(p int64, text string) (Point, int64) {
	if !IsField(p) {
		return Point{}, ErrInvalid
	}
	numbers, found := numbersIn(p, text, len(Point{}))
	if !found {
		return Point{}, ErrSyntax
	}
	return Point(numbers), ErrNone
}

// LineText returns the text of a line, and ErrNone.
func LineText(p int64, l Line) (string, int64) {
	if code := codeFor(p, areLines(p, l)); code != ErrNone {
		return "", code
	}
	return textOf(l[:]), ErrNone
}

// ParseLine returns the line with a text, and ErrNone. Errors: ErrSyntax if there is none.
func ParseLine(p int64, text string) (Line, int64) {
	if !IsField(p) {
		return Line{}, ErrInvalid
	}
	numbers, found := numbersIn(p, text, len(Line{}))
	if !found || !areLines(p, Line(numbers)) {
		return Line{}, ErrSyntax
	}
	return Line(numbers), ErrNone
}

// codeFor puts the two checks that all functions share into their order. The check of the ranges
// may be done before p is known to be a prime, since it divides by nothing.
func codeFor(p int64, inRange bool) int64 {
	if !IsField(p) {
		return ErrInvalid
	}
	if !inRange {
		return ErrRange
	}
	return ErrNone
}

func areNumbers(p int64, numbers ...int64) bool {
	for _, n := range numbers {
		if n < 0 || n >= p {
			return false
		}
	}
	return true
}

func arePoints(p int64, points ...Point) bool {
	for _, a := range points {
		if !areNumbers(p, a[:]...) {
			return false
		}
	}
	return true
}

func areLines(p int64, lines ...Line) bool {
	for _, l := range lines {
		leads := l[0] == 1 || l[0] == 0 && l[1] == 1
		if !leads || !areNumbers(p, l[:]...) {
			return false
		}
	}
	return true
}

// rest differs from % for negative numbers, whose rests are not negative here.
func rest(p int64, n int64) int64 {
	return (n%p + p) % p
}

func inverse(p int64, a int64) int64 {
	for b := range p {
		if a*b%p == 1 {
			return b
		}
	}
	return 0
}

func leastRoot(p int64, a int64) (int64, bool) {
	for r := range p {
		if r*r%p == a {
			return r, true
		}
	}
	return 0, false
}

func lineMadeBy(p int64, a int64, b int64, c int64) Line {
	first := a
	if a == 0 {
		first = b
	}
	divide := inverse(p, first)
	return Line{a * divide % p, b * divide % p, c * divide % p}
}

func lineThrough(p int64, a Point, b Point) Line {
	d := difference(p, b, a)
	return lineMadeBy(p, d[1], rest(p, -d[0]), rest(p, d[0]*a[1]-d[1]*a[0]))
}

func isOnLine(p int64, a Point, l Line) bool {
	return rest(p, l[0]*a[0]+l[1]*a[1]+l[2]) == 0
}

// slopeOf returns what parallel lines share: as the first of a, b that is not 0 is always 1,
// parallel lines have the very same a and b.
func slopeOf(l Line) [2]int64 {
	return [2]int64(l[:2])
}

// pointsOf yields the points of a line in order: x ascends wherever it is not the same for all.
func pointsOf(p int64, l Line) iter.Seq[Point] {
	start, next := Point{rest(p, -l[2]), 0}, Point{rest(p, -l[2]), 1}
	if l[1] != 0 {
		divide := inverse(p, l[1])
		start = Point{0, rest(p, -l[2]*divide)}
		next = Point{1, rest(p, -(l[0]+l[2])*divide)}
	}
	return func(yield func(Point) bool) {
		for t := range p {
			if !yield(combination(p, start, next, t)) {
				return
			}
		}
	}
}

// allPoints yields all points of the plane, in order.
func allPoints(p int64) iter.Seq[Point] {
	return func(yield func(Point) bool) {
		for x := range p {
			for y := range p {
				if !yield(Point{x, y}) {
					return
				}
			}
		}
	}
}

func compareLines(l Line, m Line) int {
	return slices.Compare(l[:], m[:])
}

func difference(p int64, a Point, b Point) Point {
	return Point{rest(p, a[0]-b[0]), rest(p, a[1]-b[1])}
}

func combination(p int64, a Point, b Point, t int64) Point {
	d := difference(p, b, a)
	return Point{rest(p, a[0]+t*d[0]), rest(p, a[1]+t*d[1])}
}

func ratiosBetween(p int64, a Point, b Point) map[Point]int64 {
	ratios := map[Point]int64{}
	for t := range p {
		ratios[combination(p, a, b, t)] = t
	}
	return ratios
}

func doubledArea(p int64, a Point, b Point, c Point) int64 {
	d, e := difference(p, b, a), difference(p, c, a)
	return rest(p, d[0]*e[1]-d[1]*e[0])
}

func textOf(numbers []int64) string {
	words := make([]string, len(numbers))
	for i, n := range numbers {
		words[i] = strconv.FormatInt(n, 10)
	}
	return strings.Join(words, ",")
}

// numbersIn returns the numbers of a text, if there are count of them.
func numbersIn(p int64, text string, count int) ([]int64, bool) {
	words := strings.SplitN(text, ",", count+1)
	if len(words) != count {
		return nil, false
	}
	numbers := make([]int64, count)
	for i, word := range words {
		n, found := numberIn(p, word)
		if !found {
			return nil, false
		}
		numbers[i] = n
	}
	return numbers, true
}

// numberIn holds the number that it reads against the word again, since ParseInt also reads signs
// and superfluous zeros.
func numberIn(p int64, word string) (int64, bool) {
	n, err := strconv.ParseInt(word, 10, 64)
	if err != nil || strconv.FormatInt(n, 10) != word || !areNumbers(p, n) {
		return 0, false
	}
	return n, true
}
