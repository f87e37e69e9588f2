package tests

import (
	"fmt"
	"math"
	"reflect"
	"slices"
	"testing"

	"loop.example/g01370/impl"
)

var fields = []int64{3, 5, 7, 11, 13, 17, 19, 23, 29, 31}

// colour is an int64 argument that is a colour and no number modulo p.
type colour int64

var colours = []int64{0, 1, 2}

// count is an int64 argument that has the same bounds for every prime.
type count struct{ n, least, greatest int64 }

// sample is a function with arguments behind the prime that are in range for every prime.
type sample struct {
	name string
	fn   any
	args []any
}

// sampleOf lets int literals stand for int64 numbers.
func sampleOf(name string, fn any, args ...any) sample {
	for i, a := range args {
		if n, ok := a.(int); ok {
			args[i] = int64(n)
		}
	}
	return sample{name, fn, args}
}

// notFields returns numbers that are none of the primes, the last ones of which are so only in all
// of their 64 bits.
func notFields() []int64 {
	list := []int64{math.MinInt64, math.MinInt64 + 3, math.MaxInt64, math.MaxInt64 - 1}
	for n := int64(-40); n <= 1000; n++ {
		if !slices.Contains(fields, n) {
			list = append(list, n)
		}
	}
	for _, p := range fields {
		list = append(list, -p, p*p, p+1<<8, p+1<<16, p+1<<32, p+math.MinInt64)
	}
	return list
}

func call(fn any, p int64, args []any) (results []reflect.Value, code int64) {
	in := []reflect.Value{reflect.ValueOf(p)}
	for _, a := range args {
		switch v := a.(type) {
		case colour:
			a = int64(v)
		case count:
			a = v.n
		}
		in = append(in, reflect.ValueOf(a))
	}
	out := reflect.ValueOf(fn).Call(in)
	last := len(out) - 1
	return out[:last], out[last].Int()
}

func isZero(v reflect.Value) bool {
	return v.IsZero() || v.Kind() == reflect.Slice && v.Len() == 0
}

// wantCode checks the code of a call, and that beside an error all other results are zero values.
func wantCode(t *testing.T, s sample, p int64, args []any, want int64) {
	t.Helper()
	results, code := call(s.fn, p, args)
	if code != want {
		t.Errorf("%s(%d, %v): code %d, want %d", s.name, p, args, code, want)
	}
	for _, r := range results {
		if want != impl.ErrNone && !isZero(r) {
			t.Errorf("%s(%d, %v): %v beside code %d", s.name, p, args, r, code)
		}
	}
}

func badNumbers(p int64) []int64 {
	return []int64{-1, -p, p, p + 1, 2 * p, 1 << 32, math.MinInt64, math.MaxInt64}
}

// outOfRange returns values of the type of a that are not in range for p.
func outOfRange(p int64, a any) []any {
	var bad []any
	switch v := a.(type) {
	case int64:
		for _, n := range badNumbers(p) {
			bad = append(bad, n)
		}
	case colour:
		for _, c := range []colour{-1, -2, -3, 3, 4, 5, 31, 256, 257, 1 << 32, 1<<32 + 2, math.MinInt64, math.MinInt64 + 1, math.MaxInt64} {
			bad = append(bad, c)
		}
	case count:
		for _, n := range []int64{v.least - 1, v.least - 2, -v.greatest, v.greatest + 1, 2 * v.greatest, v.n + 1<<32, v.n + math.MinInt64, math.MaxInt64} {
			bad = append(bad, count{n, v.least, v.greatest})
		}
	case impl.Point:
		for _, n := range badNumbers(p) {
			bad = append(bad, impl.Point{n, 0}, impl.Point{1, n}, impl.Point{n, n})
		}
	case impl.Line:
		for _, n := range badNumbers(p) {
			bad = append(bad, impl.Line{n, 0, 0}, impl.Line{n, 1, 0}, impl.Line{0, n, 1},
				impl.Line{1, n, 0}, impl.Line{1, 0, n}, impl.Line{0, 1, n}, impl.Line{n, n, n})
		}
		bad = append(bad, impl.Line{}, impl.Line{0, 0, 1}, impl.Line{0, 0, p - 1},
			impl.Line{2, 0, 0}, impl.Line{2, 1, 0}, impl.Line{0, 2, 1}, impl.Line{p - 1, 0, 1})
	case impl.Circle:
		for _, n := range badNumbers(p) {
			bad = append(bad, impl.Circle{Centre: impl.Point{n, 0}, Quadrance: 1}, impl.Circle{Centre: impl.Point{1, n}, Quadrance: 0},
				impl.Circle{Centre: impl.Point{1, 2}, Quadrance: n}, impl.Circle{Centre: impl.Point{n, n}, Quadrance: n})
		}
	case impl.Move:
		for _, n := range badNumbers(p) {
			bad = append(bad, mapOf(n, 0, 0, 1, 0, 0), mapOf(1, n, 0, 1, 0, 0), mapOf(1, 0, n, 1, 0, 0), mapOf(1, 0, 0, n, 0, 0),
				mapOf(1, 0, 0, 1, n, 0), mapOf(1, 0, 0, 1, 0, n), mapOf(n, n, n, n, n, n))
		}
	case impl.Conic:
		for _, n := range badNumbers(p) {
			for i := range v {
				bad = append(bad, impl.Conic(changedAt(v[:], i, n)))
			}
		}
		bad = append(bad, impl.Conic{}, impl.Conic{0, 0, 0, 1, 2, 1}, impl.Conic{2, 0, 0, 0, 0, 0}, impl.Conic{2, 1, 1, 0, 1, 0},
			impl.Conic{0, 2, 0, 1, 0, 1}, impl.Conic{0, 2, 1, 0, 0, 0}, impl.Conic{0, 0, 2, 1, 1, 1}, impl.Conic{p - 1, 0, 1, 0, 0, 1})
	case impl.Place:
		for _, n := range badNumbers(p) {
			for i := range v {
				bad = append(bad, impl.Place(changedAt(v[:], i, n)))
			}
			bad = append(bad, impl.Place{n, 1, 2}, impl.Place{0, n, 1}, impl.Place{0, 0, n}, impl.Place{n, n, n})
		}
		bad = append(bad, impl.Place{}, impl.Place{2, 0, 0}, impl.Place{2, 1, 1}, impl.Place{0, 2, 0}, impl.Place{0, 2, 1},
			impl.Place{0, 0, 2}, impl.Place{p - 1, 0, 1}, impl.Place{p - 1, 1, 0}, impl.Place{0, p - 1, 1}, impl.Place{0, 0, p - 1})
	case []int64:
		for _, n := range badNumbers(p) {
			bad = append(bad, []int64{n}, []int64{0, 0, 0, n, 0, 0}, []int64{0, 0, 0, 0, 0, n})
			for i := range v {
				bad = append(bad, changedAt(v, i, n))
			}
		}
		for _, list := range otherLengths(v) {
			bad = append(bad, list)
		}
	case []impl.Point:
		for _, n := range badNumbers(p) {
			bad = append(bad, []impl.Point{{n, n}})
			for i, a := range v {
				bad = append(bad, changedAt(v, i, impl.Point{n, a[1]}), changedAt(v, i, impl.Point{a[0], n}))
			}
		}
		for _, list := range otherLengths(v) {
			bad = append(bad, list)
		}
	case string:
	default:
		panic(fmt.Sprintf("no values out of range for %T", a))
	}
	return bad
}

func changedAt[T any](list []T, i int, value T) []T {
	changed := slices.Clone(list)
	changed[i] = value
	return changed
}

// otherLengths returns lists of the elements of a list that are shorter and longer than it.
func otherLengths[T any](list []T) [][]T {
	others := [][]T{nil, append(slices.Clone(list), list[0]), slices.Concat(list, list), slices.Repeat(list, 1000)}
	for i := range list {
		others = append(others, list[:i])
	}
	return others
}

// spoilt returns the arguments with each one of them out of range in turn, and with all equal ones
// out of range in the same way.
func spoilt(p int64, args []any) [][]any {
	var lists [][]any
	for i, a := range args {
		for _, bad := range outOfRange(p, a) {
			one, all := slices.Clone(args), slices.Clone(args)
			one[i] = bad
			for j := range all {
				if reflect.DeepEqual(all[j], a) {
					all[j] = bad
				}
			}
			lists = append(lists, one, all)
		}
	}
	return lists
}

func checkInvalidFirst(t *testing.T, samples []sample) {
	t.Helper()
	for _, s := range samples {
		for _, p := range notFields() {
			wantCode(t, s, p, s.args, impl.ErrInvalid)
		}
		for _, p := range []int64{math.MinInt64, -7, -1, 0, 1, 2, 9, 37, math.MaxInt64} {
			for _, args := range spoilt(p, s.args) {
				wantCode(t, s, p, args, impl.ErrInvalid)
			}
		}
	}
}

func checkRangeSecond(t *testing.T, samples []sample) {
	t.Helper()
	for _, s := range samples {
		for _, p := range fields {
			for _, args := range spoilt(p, s.args) {
				wantCode(t, s, p, args, impl.ErrRange)
			}
		}
	}
}
