package tests

import (
	"fmt"
	"math"
	"regexp"
	"slices"
	"strconv"
	"strings"
	"testing"

	"loop.example/g01370/impl"
)

// changers are the commands without a word that change the desk, tellers those that do not.
var (
	changers = []string{"turn", "middle", "foot", "centre", "high", "reset"}
	tellers  = []string{"show", "field", "area", "side", "quadrances", "null", "right", "spread", "quadrea", "centroid", "median",
		"altitude", "euler", "orthic", "circle", "omega", "eulers", "rights", "units"}
	withNumber = []string{"prime", "colour", "combine", "at", "count"}
	withPoint  = []string{"first", "second", "third"}
	// ofTriangle are the commands that need a triangle.
	ofTriangle = []string{"centre", "high", "quadrea", "centroid", "median", "altitude", "euler", "orthic", "circle", "omega", "eulers"}
	// forA are the commands whose result becomes the first point.
	forA = []string{"middle", "combine", "foot", "centre", "high"}
)

func commandsAlone() []string { return slices.Concat(changers, tellers) }

func freshDesk(p int64) impl.Desk {
	return impl.Desk{Prime: p, Colour: 0, Points: [3]impl.Point{{0, 0}, {1, 0}, {0, 1}}}
}

func deskOf(p, colour int64, points ...impl.Point) impl.Desk {
	return impl.Desk{Prime: p, Colour: colour, Points: [3]impl.Point(points)}
}

// inDesks calls check with desks of each prime in each colour: with all points for 3, with scattered
// ones, equal ones among them, for larger primes, and with two points on a null line.
func inDesks(check func(d impl.Desk)) {
	inColours(func(p, colour int64) {
		some := scattered(p, 5)
		if p == 3 {
			some = everyPoint(p)
		}
		eachThree(some, func(a, b, c impl.Point) { check(deskOf(p, colour, a, b, c)) })
	})
	n := 0
	onNullLines(func(p, colour int64, a, b, c impl.Point) {
		// The same three points come in three orders, one after the other; 11 is no multiple of 3.
		if n++; n%11 == 0 {
			check(deskOf(p, colour, a, b, c))
		}
	})
}

// fewDesks are desks of all primes and colours; their points are a triangle, or two of them, or all,
// are equal.
func fewDesks() []impl.Desk {
	var list []impl.Desk
	inColours(func(p, colour int64) {
		m := p - 1
		list = append(list, deskOf(p, colour, impl.Point{0, m}, impl.Point{1, 0}, impl.Point{2, 2}),
			deskOf(p, colour, impl.Point{m, m}, impl.Point{0, 1}, impl.Point{0, 1}),
			deskOf(p, colour, impl.Point{1, 2}, impl.Point{1, 2}, impl.Point{1, 2}))
	})
	return list
}

func notDesks() []impl.Desk {
	list := []impl.Desk{{}, {Colour: 1}, {Colour: 2, Points: freshDesk(7).Points}}
	for _, n := range notFields() {
		list = append(list, freshDesk(n), deskOf(n, 2, impl.Point{}, impl.Point{}, impl.Point{}))
	}
	for _, p := range fields {
		for _, bad := range outOfRange(p, colour(0)) {
			list = append(list, deskOf(p, int64(bad.(colour)), impl.Point{0, 0}, impl.Point{1, 0}, impl.Point{0, 1}))
		}
		for _, c := range colours {
			for _, n := range badNumbers(p) {
				for i := range 6 {
					d := deskOf(p, c, impl.Point{0, 0}, impl.Point{1, 0}, impl.Point{0, 1})
					d.Points[i/2][i%2] = n
					list = append(list, d)
				}
			}
		}
	}
	return list
}

func TestNewDesk(t *testing.T) {
	d := impl.NewDesk()
	if d != (impl.Desk{Prime: 7, Colour: 0, Points: [3]impl.Point{{0, 0}, {1, 0}, {0, 1}}}) || !impl.IsDesk(d) || d != impl.NewDesk() {
		t.Errorf("NewDesk = %v", d)
	}
	if impl.MaxConsole != 4000 || impl.MaxLines != 40 {
		t.Errorf("MaxConsole is %d, MaxLines %d", impl.MaxConsole, impl.MaxLines)
	}
}

func TestDesks(t *testing.T) {
	inDesks(func(d impl.Desk) {
		if !impl.IsDesk(d) {
			t.Errorf("IsDesk(%v) is false", d)
		}
	})
	inColours(func(p, colour int64) {
		for _, n := range []int64{0, 1, p - 1} {
			d := deskOf(p, colour, impl.Point{n, n}, impl.Point{n, n}, impl.Point{n, n})
			if !impl.IsDesk(d) || !impl.IsDesk(freshDesk(p)) {
				t.Errorf("IsDesk(%v), or of the fresh desk, is false", d)
			}
		}
	})
	for _, d := range notDesks() {
		if impl.IsDesk(d) {
			t.Errorf("IsDesk(%v) is true", d)
		}
	}
}

func TestNoLineOnNoDesk(t *testing.T) {
	lines := append(commandsAlone(), "", " ", "fly", "prime 7", "prime 8", "colour 0", "colour 3", "first 0,0", "first 9", "second 0,0", "third 0,0",
		"combine 0", "at 0", "count 0")
	for _, d := range notDesks() {
		for _, line := range lines {
			if after, output := impl.RunLine(d, line); after != (impl.Desk{}) || output != "" {
				t.Fatalf("RunLine(%v, %q) = %v, %q", d, line, after, output)
			}
		}
	}
}

var (
	lineAlone      = regexp.MustCompile(`\A[a-z]+\z`)
	lineWithNumber = regexp.MustCompile(`\A([a-z]+) (0|[1-9][0-9]{0,8})\z`)
	lineWithPoint  = regexp.MustCompile(`\A([a-z]+) (0|[1-9][0-9]?),(0|[1-9][0-9]?)\z`)
)

// readLine reads a line anew, without the program, as a command and the numbers behind it. The command
// is empty if there is none that has such words.
func readLine(line string) (command string, numbers []int64) {
	known := commandsAlone()
	found := lineAlone.FindStringSubmatch(line)
	if found != nil {
		found = []string{"", line}
	} else if found = lineWithNumber.FindStringSubmatch(line); found != nil {
		known = withNumber
	} else if found = lineWithPoint.FindStringSubmatch(line); found != nil {
		known = withPoint
	}
	if found == nil || !slices.Contains(known, found[1]) {
		return "", nil
	}
	for _, word := range found[2:] {
		n, _ := strconv.ParseInt(word, 10, 64)
		numbers = append(numbers, n)
	}
	return found[1], numbers
}

// resultOf returns what the functions of the other layers return for a command that asks them.
func resultOf(d impl.Desk, command string, n int64) (any, int64) {
	p, colour, a, b, c := d.Prime, d.Colour, d.Points[0], d.Points[1], d.Points[2]
	switch command {
	case "middle":
		return impl.MidpointOf(p, a, b)
	case "combine":
		return impl.CombinationOf(p, a, b, n)
	case "foot":
		side, code := impl.LineThrough(p, b, c)
		if code != impl.ErrNone {
			return nil, code
		}
		return impl.FootOf(p, colour, a, side)
	case "centre":
		return impl.CircumcentreOf(p, colour, a, b, c)
	case "high":
		return impl.OrthocentreOf(p, colour, a, b, c)
	case "show":
		return []impl.Point{a, b, c}, impl.ErrNone
	case "field":
		return []int64{p, colour}, impl.ErrNone
	case "area":
		return impl.DoubledArea(p, a, b, c)
	case "side":
		return impl.LineThrough(p, b, c)
	case "quadrances":
		atA, _ := impl.Quadrance(p, colour, b, c)
		atB, _ := impl.Quadrance(p, colour, a, c)
		atC, _ := impl.Quadrance(p, colour, a, b)
		return []int64{atA, atB, atC}, impl.ErrNone
	case "null":
		return impl.NullLines(p, colour, a)
	case "at":
		return impl.PointsAt(p, colour, a, n)
	case "count":
		return impl.CountAt(p, colour, n)
	case "right":
		return impl.HasRightAngle(p, colour, a, b, c)
	case "spread":
		return impl.SpreadAt(p, colour, a, b, c)
	case "units":
		return impl.UnitCounts(p)
	}
	return resultOfTriangle(d, command)
}

func resultOfTriangle(d impl.Desk, command string) (any, int64) {
	p, colour, a, b, c := d.Prime, d.Colour, d.Points[0], d.Points[1], d.Points[2]
	switch command {
	case "quadrea":
		return impl.QuadreaOf(p, colour, a, b, c)
	case "centroid":
		return impl.CentroidOf(p, a, b, c)
	case "median":
		return impl.MedianOf(p, a, b, c)
	case "altitude":
		return impl.AltitudeOf(p, colour, a, b, c)
	case "euler":
		return impl.EulerLineOf(p, colour, a, b, c)
	case "orthic":
		return impl.OrthicPoints(p, colour, a, b, c)
	case "circle":
		return impl.CircleThrough(p, colour, a, b, c)
	case "omega":
		return impl.OmegaPoints(p, a, b, c)
	case "eulers":
		return impl.ThreeEulerLines(p, a, b, c)
	case "rights":
		return impl.RightColours(p, a, b, c)
	}
	panic("no command: " + command)
}

// textFor writes a result as the console puts it out.
func textFor(result any) string {
	switch v := result.(type) {
	case int64:
		return fmt.Sprint(v)
	case bool:
		return map[bool]string{false: "no", true: "yes"}[v]
	case impl.Point:
		return fmt.Sprintf("%d,%d", v[0], v[1])
	case impl.Line:
		return fmt.Sprintf("%d,%d,%d", v[0], v[1], v[2])
	case impl.Circle:
		return fmt.Sprintf("%d,%d %d", v.Centre[0], v.Centre[1], v.Quadrance)
	case []int64:
		return textOfList(v)
	case []impl.Point:
		return textOfList(v)
	case []impl.Line:
		return textOfList(v)
	}
	panic(fmt.Sprintf("no text for %T", result))
}

func textOfList[T any](list []T) string {
	if len(list) == 0 {
		return "none"
	}
	text := ""
	for _, one := range list {
		text += " " + textFor(one)
	}
	return text[1:]
}

// wanted tells anew what a line does to a desk.
func wanted(d impl.Desk, line string) (impl.Desk, string) {
	command, numbers := readLine(line)
	after, n := d, int64(0)
	if len(numbers) > 0 {
		n = numbers[0]
	}
	switch command {
	case "":
		return d, "error"
	case "prime":
		if !slices.Contains(fields, n) {
			return d, "error"
		}
		return freshDesk(n), fmt.Sprint(n)
	case "colour":
		if !slices.Contains(colours, n) {
			return d, "error"
		}
		after.Colour = n
		return after, fmt.Sprint(n)
	case "first", "second", "third":
		a := impl.Point(numbers)
		if !slices.Contains(everyPoint(d.Prime), a) {
			return d, "error"
		}
		after.Points[slices.Index(withPoint, command)] = a
		return after, textFor(a)
	case "turn":
		after.Points = [3]impl.Point{d.Points[1], d.Points[2], d.Points[0]}
		return after, textFor(after.Points[:])
	case "reset":
		return freshDesk(7), "ok"
	}
	result, code := resultOf(d, command, n)
	if code != impl.ErrNone {
		return d, "error"
	}
	if slices.Contains(forA, command) {
		after.Points[0] = result.(impl.Point)
	}
	return after, textFor(result)
}

// checkLine returns the output of a line, which is run twice.
func checkLine(t *testing.T, d impl.Desk, line string) string {
	t.Helper()
	wantedDesk, wantedOutput := wanted(d, line)
	after, output := impl.RunLine(d, line)
	if after != wantedDesk || output != wantedOutput {
		t.Errorf("RunLine(%v, %.80q) = %v, %q, want %v, %q", d, line, after, output, wantedDesk, wantedOutput)
	}
	if again, outputAgain := impl.RunLine(d, line); again != after || outputAgain != output {
		t.Errorf("RunLine(%v, %.80q) = %v, %q, and then %v, %q", d, line, after, output, again, outputAgain)
	}
	if !impl.IsDesk(after) || output == "error" && after != d || output == "" {
		t.Errorf("RunLine(%v, %.80q) = %v, %q: no desk, or no output, or changed in spite of an error", d, line, after, output)
	}
	return output
}

// numbersFor returns some numbers of a prime, both ends among them, and some that are too large.
func numbersFor(p int64) []int64 { return []int64{0, 1, p - 1, p, p + 1} }

// seenOutputs counts the kinds of outputs of a command: errors, empty lists, and others.
type seenOutputs map[string]map[string]int

func (s seenOutputs) add(command, output string) {
	if s[command] == nil {
		s[command] = map[string]int{}
	}
	if !slices.Contains([]string{"error", "none", "yes", "no"}, output) {
		output = "other"
	}
	s[command][output]++
}

func (s seenOutputs) right(command string) (n int) {
	for kind, count := range s[command] {
		if kind != "error" {
			n += count
		}
	}
	return n
}

// wantKinds expects that a command had just these kinds of outputs.
func (s seenOutputs) wantKinds(t *testing.T, command string, kinds ...string) {
	t.Helper()
	for _, kind := range []string{"error", "none", "yes", "no", "other"} {
		if n := s[command][kind]; slices.Contains(kinds, kind) && n < 20 || !slices.Contains(kinds, kind) && n > 0 {
			t.Errorf("%q has %d outputs that are %q", command, n, kind)
		}
	}
}

func TestLinesOfAllDesks(t *testing.T) {
	seen := seenOutputs{}
	inDesks(func(d impl.Desk) {
		for _, command := range commandsAlone() {
			seen.add(command, checkLine(t, d, command))
		}
		for _, command := range []string{"combine", "at", "count"} {
			for _, n := range numbersFor(d.Prime) {
				seen.add(command, checkLine(t, d, fmt.Sprint(command, " ", n)))
			}
		}
	})
	for _, command := range []string{"turn", "middle", "show", "field", "area", "quadrances", "units", "reset"} {
		seen.wantKinds(t, command, "other")
	}
	for _, command := range append(ofTriangle, "foot", "side", "spread", "combine", "at", "count") {
		seen.wantKinds(t, command, "error", "other")
	}
	seen.wantKinds(t, "null", "none", "other")
	seen.wantKinds(t, "rights", "none", "other")
	seen.wantKinds(t, "right", "yes", "no")
}

// whyError tells for what reason a line has to fail on a desk, of the reasons that the chapters name.
func whyError(d impl.Desk, command string) string {
	p, colour, a, b, c := d.Prime, d.Colour, d.Points[0], d.Points[1], d.Points[2]
	triangle := isTriangle(p, a, b, c)
	nullSide := b != c && quadranceIn(p, colour, b, c) == 0
	nullAtA := a != b && a != c && quadranceIn(p, colour, a, b)*quadranceIn(p, colour, a, c) == 0
	switch {
	case slices.Contains(ofTriangle, command) && !triangle:
		return command + ": no triangle"
	case command == "centroid" && p == 3:
		return command + ": 3"
	case command == "euler" && !hasEulerLine(p, colour, a, b, c), command == "eulers" && len(withoutEuler(p, a, b, c)) > 0:
		return command + ": no line of Euler"
	case command == "orthic" && (nullSide || nullAtA):
		return command + ": null"
	case (command == "foot" || command == "side") && b == c:
		return command + ": equal"
	case command == "foot" && nullSide, command == "spread" && nullAtA:
		return command + ": null"
	case command == "spread" && (a == b || a == c):
		return command + ": equal"
	}
	return ""
}

func TestErrorsOfLines(t *testing.T) {
	reasons := map[string]int{}
	check := func(d impl.Desk) {
		for _, command := range commandsAlone() {
			after, output := impl.RunLine(d, command)
			why := whyError(d, command)
			if (output == "error") != (why != "") || why != "" && after != d {
				t.Errorf("RunLine(%v, %q) = %v, %q, but for %q", d, command, after, output, why)
			}
			reasons[why]++
		}
	}
	inDesks(check)
	inColours(func(p, colour int64) {
		// These have the orthocentre 0, 0 in blue, and the circumcentre too where 3 is a square.
		for _, root := range everyPoint(p) {
			if mod(p, root[0]*root[0]) == mod(p, 3) && root[0] != 0 {
				check(deskOf(p, colour, impl.Point{2, 0}, impl.Point{p - 1, root[0]}, impl.Point{p - 1, p - root[0]}))
			}
		}
	})
	want := []string{"", "centroid: 3", "euler: no line of Euler", "eulers: no line of Euler", "orthic: null", "foot: null", "spread: null",
		"foot: equal", "side: equal", "spread: equal"}
	for _, command := range ofTriangle {
		want = append(want, command+": no triangle")
	}
	for _, why := range want {
		if reasons[why] == 0 {
			t.Errorf("no line has failed for %q", why)
		}
		delete(reasons, why)
	}
	if len(reasons) > 0 {
		t.Errorf("lines have failed for other reasons: %v", reasons)
	}
}

func TestPrimeLines(t *testing.T) {
	for _, d := range fewDesks() {
		for _, p := range fields {
			line := fmt.Sprint("prime ", p)
			if after, output := impl.RunLine(d, line); after != freshDesk(p) || output != fmt.Sprint(p) {
				t.Errorf("RunLine(%v, %q) = %v, %q", d, line, after, output)
			}
		}
		for _, n := range notFields() {
			if output := checkLine(t, d, fmt.Sprint("prime ", n)); output != "error" {
				t.Errorf("prime %d: %q", n, output)
			}
		}
	}
}

func TestColourLines(t *testing.T) {
	for _, d := range fewDesks() {
		for _, c := range colours {
			line := fmt.Sprint("colour ", c)
			if after, output := impl.RunLine(d, line); after != deskOf(d.Prime, c, d.Points[:]...) || output != fmt.Sprint(c) {
				t.Errorf("RunLine(%v, %q) = %v, %q", d, line, after, output)
			}
		}
		for _, bad := range outOfRange(d.Prime, colour(0)) {
			if output := checkLine(t, d, fmt.Sprint("colour ", bad)); output != "error" {
				t.Errorf("colour %d: %q", bad, output)
			}
		}
	}
}

func TestNumberLines(t *testing.T) {
	for _, p := range fields {
		var all, words []string
		for n := range p {
			all = append(all, fmt.Sprint(n))
		}
		for _, word := range all {
			words = append(words, "0"+word, "00"+word, "+"+word, "-"+word, word+".", word+" ", " "+word, strings.Repeat("0", 9)+word, word+"\r")
		}
		words = append(words, notNumbers(p)...)
		words = append(words, "999999999", "1000000000", "1234567890", "0123456789", "4294967299", "4294967296", "18446744073709551623", "none", "N", "0,0", "0x3")
		for _, c := range colours {
			d := deskOf(p, c, impl.Point{1, 2}, impl.Point{0, 2}, impl.Point{2, 1})
			for _, word := range all {
				for _, command := range []string{"combine", "at", "count"} {
					if output := checkLine(t, d, command+" "+word); output == "error" {
						t.Errorf("%s %s for %d: error", command, word, p)
					}
				}
			}
			for _, word := range words {
				for _, command := range []string{"combine", "at", "count"} {
					if output := checkLine(t, d, command+" "+word); output != "error" {
						t.Errorf("%s %.40q for %d: %q", command, word, p, output)
					}
				}
				checkLine(t, d, "prime "+word)
				checkLine(t, d, "colour "+word)
			}
		}
	}
}

func TestPointLines(t *testing.T) {
	for _, p := range fields {
		d := deskOf(p, p%3, impl.Point{0, 1}, impl.Point{1, 1}, impl.Point{1, 2})
		for i, command := range withPoint {
			for x := range p + 2 {
				for y := range p + 2 {
					after, output := impl.RunLine(d, fmt.Sprintf("%s %d,%d", command, x, y))
					want, wantOutput := d, "error"
					if x < p && y < p {
						want.Points[i], wantOutput = impl.Point{x, y}, fmt.Sprintf("%d,%d", x, y)
					}
					if after != want || output != wantOutput {
						t.Errorf("%s %d,%d on %v: %v, %q", command, x, y, d, after, output)
					}
				}
			}
			texts := []string{"", ",", "1", "1,", ",1", "1,2,", "1,2,0", "1;2", "(1,2)", "1, 2", "1 2", "1,2 ", " 1,2", "1,2\r", "1,2 0"}
			for _, word := range notNumbers(p) {
				texts = append(texts, word+",1", "1,"+word, word+","+word)
			}
			for _, text := range texts {
				if output := checkLine(t, d, command+" "+text); output != "error" {
					t.Errorf("%s %.40q for %d: %q", command, text, p, output)
				}
			}
		}
	}
}

// rightLines has a line of each command.
func rightLines() []string {
	return append(commandsAlone(), "prime 5", "colour 1", "first 1,2", "second 2,1", "third 0,2", "combine 2", "at 1", "count 0")
}

func TestWrongWords(t *testing.T) {
	for _, d := range append(fewDesks(), impl.NewDesk()) {
		lines := []string{"", " ", "  ", "fly", "fly 5", "error", "none", "ok", "prime", "colour", "first", "second", "third", "combine", "at", "count",
			"5", "1,2", "5 prime", "1,2 first", "show field", "show\tfield", "\x00", "\xff", "desk", "point", "line", "Prime 7", "é", "first\n1,2"}
		for _, line := range rightLines() {
			command, word, _ := strings.Cut(line, " ")
			lines = append(lines, line+" ", " "+line, line+"  ", line+" 0", line+" 1,2", line+" "+command, line+" x", "0 "+line,
				strings.ToUpper(line), strings.ToUpper(line[:1])+line[1:], line+"\n", line+"\r", line+"\t", line+"\x00", line+".", "\n"+line, "\t"+line,
				command+"  "+word, command+"\t"+word, command+"\u00a0"+word, command+" \t"+word, command+"  ", command+" x", command+","+word,
				command+"=", "\ufeff"+line, line+"\u00a0", line+"\x85", strings.Repeat(line+" ", 500), strings.Repeat(" ", 5000)+line)
			if word != "" {
				lines = append(lines, command, command+word, command+" "+word+" "+word, word+" "+command)
			}
		}
		for _, line := range lines {
			if output := checkLine(t, d, line); output != "error" {
				t.Errorf("RunLine(%v, %.40q): %q", d, line, output)
			}
		}
	}
}

// Lines that differ from those of the table in one byte are wrong, but for those that are in it too.
func TestLinesWithOneOtherByte(t *testing.T) {
	right := map[string]int{}
	d := deskOf(13, 2, impl.Point{0, 1}, impl.Point{1, 2}, impl.Point{3, 1})
	check := func(line string) {
		if checkLine(t, d, line) != "error" {
			right[line]++
		}
	}
	for _, line := range rightLines() {
		for i := range len(line) + 1 {
			for b := range 256 {
				check(line[:i] + string([]byte{byte(b)}) + line[i:])
				if i < len(line) {
					check(line[:i] + string([]byte{byte(b)}) + line[i+1:])
				}
			}
			if i < len(line) {
				check(line[:i] + line[i+1:])
			}
		}
	}
	for _, line := range []string{"right", "rights", "euler", "eulers", "at 1", "at 11", "at 12", "prime 3", "colour 0", "first 11,2", "count 10"} {
		if right[line] == 0 {
			t.Errorf("%q is not right", line)
		}
	}
}

func TestAllShortLines(t *testing.T) {
	for _, p := range []int64{3, 7, 13} {
		right := 0
		for _, line := range textsOf("at 01", 6) {
			if checkLine(t, freshDesk(p), line) != "error" {
				right++
			}
		}
		// at 0, at 1, at 10 and at 11
		if want := map[int64]int{3: 2, 7: 2, 13: 4}[p]; right != want {
			t.Errorf("%d lines are right for %d, want %d", right, p, want)
		}
	}
}

// cutLines cuts a text into its lines, empty ones included, byte by byte.
func cutLines(text string) []string {
	var lines []string
	line := ""
	for i := range len(text) {
		if text[i] == '\n' {
			lines = append(lines, line)
			line = ""
		} else {
			line += text[i : i+1]
		}
	}
	if line != "" {
		lines = append(lines, line)
	}
	return lines
}

// checkText returns the outputs of a text that the console does not refuse.
func checkText(t *testing.T, text string) string {
	t.Helper()
	d, outputs := impl.NewDesk(), ""
	for _, line := range cutLines(text) {
		if line == "" {
			continue
		}
		outputs += checkLine(t, d, line) + "\n"
		d, _ = impl.RunLine(d, line)
	}
	for range 2 {
		if got := impl.Console(text); got != outputs {
			t.Errorf("Console(%.200q) = %q, want %q", text, got, outputs)
		}
		if after, accepted := impl.DeskAfter(text); after != d || !accepted {
			t.Errorf("DeskAfter(%.200q) = %v, %v, want %v", text, after, accepted, d)
		}
	}
	return outputs
}

func checkRefused(t *testing.T, text string) {
	t.Helper()
	if got := impl.Console(text); got != "" {
		t.Errorf("Console(%.80q, %d bytes) = %.80q", text, len(text), got)
	}
	if d, accepted := impl.DeskAfter(text); d != (impl.Desk{}) || accepted {
		t.Errorf("DeskAfter(%.80q, %d bytes) = %v, %v", text, len(text), d, accepted)
	}
}

func wantText(t *testing.T, text, outputs string) {
	t.Helper()
	if got := checkText(t, text); got != outputs {
		t.Errorf("the outputs of %.200q are %.200q, want %.200q", text, got, outputs)
	}
}

func TestLinesOfTexts(t *testing.T) {
	for _, text := range []string{"", "\n", "\n\n\n", strings.Repeat("\n", 40)} {
		wantText(t, text, "")
		if d, accepted := impl.DeskAfter(text); d != impl.NewDesk() || !accepted {
			t.Errorf("DeskAfter(%q) = %v, %v", text, d, accepted)
		}
	}
	for text, outputs := range map[string]string{
		"show":                         "0,0 1,0 0,1\n",
		"show\n":                       "0,0 1,0 0,1\n",
		"\nshow\n":                     "0,0 1,0 0,1\n",
		"\n\nshow":                     "0,0 1,0 0,1\n",
		"show\n\n\n":                   "0,0 1,0 0,1\n",
		"prime 5\nfield":               "5\n5 0\n",
		"prime 5\n\n\nfield\n":         "5\n5 0\n",
		"colour 2\nprime 5\nfield\n":   "2\n5\n5 0\n",
		"colour 2\nprime 6\nfield\n":   "2\nerror\n7 2\n",
		"first 6,6\nreset\nshow":       "6,6\nok\n0,0 1,0 0,1\n",
		"first 6,6\nshow\nprime 3":     "6,6\n6,6 1,0 0,1\n3\n",
		" \n":                          "error\n",
		" ":                            "error\n",
		"\r\n":                         "error\n",
		"show\r\nfield\r\n":            "error\nerror\n",
		"show\rfield":                  "error\n",
		"show\x00\nfield":              "error\n7 0\n",
		"\x00":                         "error\n",
		"show\x0bfield\n":              "error\n",
		"show\x0cfield\n":              "error\n",
		"show\u0085field\n":            "error\n",
		"show\u2028field\u2029field\n": "error\n",
		"field\n\xff\nfield":           "7 0\nerror\n7 0\n",
		"\x80\n\xc3\n\xed\xa0\x80\n":   "error\nerror\nerror\n",
		"\xff\xfe\n\nfield":            "error\n7 0\n",
		"field \nfield":                "error\n7 0\n",
		"\ufefffield\nfield":           "error\n7 0\n",
		"prime 7\nprime 11\nprime 07":  "7\n11\nerror\n",
	} {
		wantText(t, text, outputs)
	}
}

func TestMostBytes(t *testing.T) {
	for _, text := range []string{
		strings.Repeat("x", 4000),
		strings.Repeat("x", 3999) + "\n",
		strings.Repeat(" ", 4000),
		strings.Repeat("\r", 4000),
		strings.Repeat("\xff", 4000),
		strings.Repeat("\u00e9", 2000),
		strings.Repeat("\u20ac", 1333) + "x",
		strings.Repeat("show\n", 39) + strings.Repeat("x", 4000-39*5),
		strings.Repeat("x", 3995) + "\nshow",
		strings.Repeat("x", 3994) + "\nshow\n",
		"count " + strings.Repeat("0", 3988) + "\nshow\n",
	} {
		if len(text) != 4000 {
			t.Fatalf("%.20q has %d bytes", text, len(text))
		}
		if checkText(t, text) == "" {
			t.Errorf("Console(%.20q, 4000 bytes) is empty", text)
		}
		checkRefused(t, text+"x")
		checkRefused(t, text+"\n")
		checkRefused(t, "\n"+text)
		checkRefused(t, "\xe9"+text)
		checkText(t, text[1:])
	}
	checkRefused(t, strings.Repeat("\u20ac", 1334))
	checkRefused(t, strings.Repeat("show\n", 1000))
	checkRefused(t, strings.Repeat("\n", 4001))
	checkRefused(t, strings.Repeat("x", 1<<20))
}

func TestMostLines(t *testing.T) {
	for _, line := range []string{"", "show", "x", " ", "turn"} {
		forty := strings.Repeat(line+"\n", 40)
		output := ""
		if line != "" {
			_, output = wanted(impl.NewDesk(), line)
		}
		if line != "turn" && line != "" {
			wantText(t, forty, strings.Repeat(output+"\n", 40))
		}
		checkText(t, forty)
		checkText(t, strings.Repeat(line+"\n", 39)+"show")
		checkText(t, strings.Repeat(line+"\n", 39)+"show\n")
		checkText(t, strings.Repeat("\n", 39)+line)
		checkText(t, strings.TrimSuffix(forty, "\n"))
		checkRefused(t, forty+"\n")
		checkRefused(t, forty+"show")
		checkRefused(t, forty+"show\n")
		checkRefused(t, forty+" ")
		checkRefused(t, "\n"+forty)
		checkRefused(t, "show\n"+strings.Repeat("\n", 39)+line+"\n")
		checkRefused(t, forty+forty)
	}
	wantText(t, strings.Repeat("\n", 39)+"field", "7 0\n")
	wantText(t, "field\n"+strings.Repeat("\n", 39), "7 0\n")
	checkRefused(t, "field\n"+strings.Repeat("\n", 40))
	checkRefused(t, strings.Repeat("\n", 40)+"field")
	checkRefused(t, strings.Repeat("\n", 41))
}

// someLine returns the line of a seed: most of them are right, and fit to larger primes as well.
func someLine(seed int) string {
	lines := append(rightLines(), "", "fly", "show ", "prime 9", "colour 3", "at 01", "first 31,0")
	for _, n := range []int{0, 2, 4, 6} {
		lines = append(lines, fmt.Sprintf("first %d,%d", n, seed%7), fmt.Sprintf("second %d,%d", seed%5, n), fmt.Sprintf("third %d,%d", n, n+1),
			fmt.Sprint("colour ", n%3), fmt.Sprint("combine ", n), fmt.Sprint("at ", seed%13), fmt.Sprint("count ", n))
	}
	// A prime resets the points, and reset everything: there are not many of them.
	if seed%5 == 0 {
		return fmt.Sprint("prime ", fields[seed/5%len(fields)])
	}
	return lines[seed%len(lines)]
}

func TestManyTexts(t *testing.T) {
	seen := seenOutputs{}
	primes := map[int64]int{}
	seed := 1
	for i := range 2000 {
		var lines []string
		d := impl.NewDesk()
		for range i % 41 {
			// The modulus is a prime, and 16807 goes through all of its rests but 0.
			seed = seed * 16807 % math.MaxInt32
			line := someLine(seed / 7)
			lines = append(lines, line)
			if line != "" {
				command, _, _ := strings.Cut(line, " ")
				after, output := impl.RunLine(d, line)
				seen.add(command, output)
				d = after
				primes[d.Prime]++
			}
		}
		text := strings.Join(lines, "\n")
		checkText(t, text)
		// The fortieth newline is not the beginning of a line.
		checkText(t, strings.TrimSuffix(text, "\n")+"\n")
	}
	for _, line := range rightLines() {
		command, _, _ := strings.Cut(line, " ")
		if seen.right(command) == 0 {
			t.Errorf("%s was never right: %v", command, seen[command])
		}
		if slices.Contains(ofTriangle, command) && seen[command]["error"] == 0 {
			t.Errorf("%s was never wrong: %v", command, seen[command])
		}
	}
	for _, p := range fields {
		if primes[p] < 100 {
			t.Errorf("%d lines for %d", primes[p], p)
		}
	}
}

// The outputs are those of the document, or worked out by hand.
func TestLayer11Examples(t *testing.T) {
	for line, output := range map[string]string{
		"show": "0,0 1,0 0,1", "field": "7 0", "area": "1", "side": "1,1,6", "quadrances": "2 1 1", "null": "none", "right": "yes",
		"at 0": "0,0", "at 1": "0,1 0,6 1,0 2,2 2,5 5,2 5,5 6,0", "at 7": "error", "count 0": "1", "count 1": "8", "count 7": "error",
		"spread": "1", "quadrea": "4", "centroid": "5,5", "median": "1,6,0", "altitude": "1,6,0", "euler": "1,6,0", "orthic": "4,4 0,0 0,0",
		"circle": "4,4 4", "omega": "0,0 0,0 1,1", "eulers": "1,6,0 1,6,0 1,6,0", "rights": "0 1", "units": "8 6 6",
		"turn": "1,0 0,1 0,0", "middle": "4,0", "combine 3": "3,0", "combine 0": "0,0", "combine 7": "error", "foot": "4,4", "centre": "4,4",
		"high": "0,0", "reset": "ok", "first 3,4": "3,4", "second 6,6": "6,6", "third 7,0": "error", "prime 31": "31", "colour 2": "2",
	} {
		if got := checkLine(t, impl.NewDesk(), line); got != output {
			t.Errorf("%s: %q, want %q", line, got, output)
		}
	}
	wantText(t, "second 1,1\nthird 1,2\nrights\nright\ncolour 1\nnull\nspread\n", "1,1\n1,2\nnone\nno\n1\n1,1,0 1,6,0\nerror\n")
	wantText(t, "prime 11\nsecond 1,1\nthird 2,3\nomega\neulers\ncolour 2\ncentre\nfield\nshow\n",
		"11\n1,1\n2,3\n10,6 9,10 6,10\n1,2,0 1,5,7 1,10,4\n2\n4,8\n11 2\n4,8 1,1 2,3\n")
	wantText(t, "prime 3\ncentroid\nmiddle\nturn\n", "3\nerror\n2,0\n1,0 0,1 2,0\n")
	if d, accepted := impl.DeskAfter("prime 5\ncolour 1\nturn\nfirst 4,4\nfly\nfirst 5,4"); d != deskOf(5, 1, impl.Point{4, 4}, impl.Point{0, 1}, impl.Point{0, 0}) || !accepted {
		t.Errorf("DeskAfter = %v, %v", d, accepted)
	}
}
