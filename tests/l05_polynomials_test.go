package tests

import (
	"math/big"
	"slices"
	"testing"

	"loop.example/g01370/impl"
)

func index(n int64) count { return count{n, 0, impl.MaxIndex} }

func degree(n int64) count { return count{n, 0, impl.MaxDegree} }

func orderNumber(n int64) count { return count{n, 1, impl.MaxIndex} }

func steps(k int64) count { return count{k, 0, 100} }

// polynomialSamples has every n and k on a bound and beside it.
func polynomialSamples() []sample {
	list := []sample{sampleOf("OrdersOf", impl.OrdersOf)}
	for s := range 3 {
		list = append(list, sampleOf("OrderOfSpread", impl.OrderOfSpread, s),
			sampleOf("PeriodOfSpread", impl.PeriodOfSpread, s))
	}
	for _, n := range []int64{0, 1, impl.MaxDegree - 1, impl.MaxDegree} {
		list = append(list, sampleOf("CoefficientsOf", impl.CoefficientsOf, degree(n)))
	}
	for _, n := range []int64{1, 2, impl.MaxIndex - 1, impl.MaxIndex} {
		list = append(list, sampleOf("SpreadsOfOrder", impl.SpreadsOfOrder, orderNumber(n)))
	}
	for s, n := range []int64{impl.MaxIndex - 1, 0, 1, 2, impl.MaxIndex} {
		s, k := s%3, []int64{0, 1, 99, 100, 100}[s]
		list = append(list, sampleOf("SpreadPolynomial", impl.SpreadPolynomial, index(n), s),
			sampleOf("ValuesOf", impl.ValuesOf, index(n)),
			sampleOf("ZerosOf", impl.ZerosOf, index(n)),
			sampleOf("LedTo", impl.LedTo, index(n), s),
			sampleOf("WalkOf", impl.WalkOf, index(n), s, steps(k)),
			sampleOf("WalkRound", impl.WalkRound, index(n), s),
			sampleOf("IsPermutation", impl.IsPermutation, index(n)))
	}
	return list
}

func TestPolynomialsInvalidFirst(t *testing.T) { checkInvalidFirst(t, polynomialSamples()) }

func TestPolynomialsRangeSecond(t *testing.T) { checkRangeSecond(t, polynomialSamples()) }

func TestPolynomialsTakeTheirBounds(t *testing.T) {
	for _, s := range polynomialSamples() {
		for _, p := range fields {
			wantCode(t, s, p, s.args, impl.ErrNone)
			if results, _ := call(s.fn, p, s.args); len(results) == 0 {
				t.Errorf("%s has no result", s.name)
			}
		}
	}
}

// spreadsIn says anew what S(0), .., S(last) are for s. None of them is taken from the one before:
// 1 - 2 S(n) is half the trace of the n-th power of a matrix, that has the trace 2 (1 - 2 s) and the
// determinant 1.
func spreadsIn(p, s, last int64) []int64 {
	trace := mod(p, 2*(1-2*s))
	power := [4]int64{1, 0, 0, 1}
	var list []int64
	for range last + 1 {
		list = append(list, quotientIn(p, mod(p, 2-power[0]-power[3]), mod(p, 4)))
		a, b, c, d := power[0], power[1], power[2], power[3]
		power = [4]int64{mod(p, a*trace+b), mod(p, -a), mod(p, c*trace+d), mod(p, -c)}
	}
	return list
}

// inNumbers calls check with each number of each prime, and with S(0), .., S(MaxIndex) for it.
func inNumbers(check func(p, s int64, spreads []int64)) {
	for _, p := range fields {
		for s := range p {
			check(p, s, spreadsIn(p, s, impl.MaxIndex))
		}
	}
}

// spreadsOfAll has S(0), .., S(MaxIndex) for each number.
func spreadsOfAll(p int64) [][]int64 {
	var table [][]int64
	for s := range p {
		table = append(table, spreadsIn(p, s, impl.MaxIndex))
	}
	return table
}

// someIndexes has small ones and great ones. With p, p - 1 and p + 1 among them, and their
// multiples, there are some for which the values are all different, and some for which all are 0.
func someIndexes(p int64) []int64 {
	list := []int64{60, 210, 500, impl.MaxIndex - 1, impl.MaxIndex}
	for n := range int64(13) {
		list = append(list, n)
	}
	list = append(list, p-1, p, p+1, 2*p, p*p-1)
	slices.Sort(list)
	return slices.DeleteFunc(slices.Compact(list), func(n int64) bool { return n > impl.MaxIndex })
}

func TestSpreadPolynomialsFollowTheRule(t *testing.T) {
	inNumbers(func(p, s int64, spreads []int64) {
		before, now := int64(0), int64(0)
		for n := range int64(impl.MaxIndex + 1) {
			value, code := impl.SpreadPolynomial(p, n, s)
			want := mod(p, 2*(1-2*s)*now-before+2*s)
			if n < 2 {
				want = n * s
			}
			if value != want || value != spreads[n] || code != impl.ErrNone {
				t.Errorf("SpreadPolynomial(%d, %d, %d) = %d, %d, want %d", p, n, s, value, code, want)
			}
			before, now = now, value
		}
	})
}

func TestSpreadPolynomialOfProductIsSpreadPolynomialOfSpreadPolynomial(t *testing.T) {
	for _, p := range fields {
		for n := range int64(19) {
			for _, m := range append(someIndexes(p), 13, 17, 33) {
				if n*m > impl.MaxIndex {
					continue
				}
				for s := range p {
					inner, code1 := impl.SpreadPolynomial(p, m, s)
					outer, code2 := impl.SpreadPolynomial(p, n, inner)
					product, code3 := impl.SpreadPolynomial(p, n*m, s)
					if outer != product || max(code1, code2, code3) != impl.ErrNone {
						t.Errorf("for %d: S(%d) of S(%d) of %d is %d, S(%d) is %d", p, n, m, s, outer, n*m, product)
					}
				}
			}
		}
	}
}

// coefficientIn is c(k) of S(n) as a number that is not bounded: n (-4)^(k-1) / k times the ways to
// choose n - k of n + k - 1 things.
func coefficientIn(p, n, k int64) int64 {
	if k == 0 {
		return 0
	}
	c := new(big.Int).Binomial(n+k-1, n-k)
	c.Mul(c, big.NewInt(n))
	c.Quo(c, big.NewInt(k))
	c.Mul(c, new(big.Int).Exp(big.NewInt(-4), big.NewInt(k-1), nil))
	return c.Mod(c, big.NewInt(p)).Int64()
}

func TestCoefficients(t *testing.T) {
	for _, p := range fields {
		for n := range int64(impl.MaxDegree + 1) {
			var want []int64
			for k := range n + 1 {
				want = append(want, coefficientIn(p, n, k))
			}
			list, code := impl.CoefficientsOf(p, n)
			if !slices.Equal(list, want) || code != impl.ErrNone {
				t.Errorf("CoefficientsOf(%d, %d) = %v, %d, want %v", p, n, list, code, want)
			}
		}
	}
}

func TestCoefficientsGiveTheValues(t *testing.T) {
	for _, p := range fields {
		for n := range int64(impl.MaxDegree + 1) {
			list, code1 := impl.CoefficientsOf(p, n)
			values, code2 := impl.ValuesOf(p, n)
			if int64(len(list)) != n+1 || int64(len(values)) != p || max(code1, code2) != impl.ErrNone {
				t.Fatalf("for %d, S(%d) has %d coefficients and %d values", p, n, len(list), len(values))
			}
			for s := range p {
				sum, power := int64(0), int64(1)
				for _, c := range list {
					sum, power = sum+c*power, power*s%p
				}
				if sum%p != values[s] {
					t.Errorf("for %d, the coefficients of S(%d) make %d of %d, its value is %d", p, n, sum%p, s, values[s])
				}
			}
		}
	}
}

func TestValues(t *testing.T) {
	for _, p := range fields {
		table := spreadsOfAll(p)
		for n := range int64(impl.MaxIndex + 1) {
			var want []int64
			for s := range p {
				want = append(want, table[s][n])
			}
			values, code := impl.ValuesOf(p, n)
			if !slices.Equal(values, want) || code != impl.ErrNone {
				t.Errorf("ValuesOf(%d, %d) = %v, %d, want %v", p, n, values, code, want)
			}
		}
	}
}

// numbersWhere has the numbers for which something holds, ascending.
func numbersWhere(p int64, holds func(s int64) bool) []int64 {
	var list []int64
	for s := range p {
		if holds(s) {
			list = append(list, s)
		}
	}
	return list
}

func TestNumbersLedToValues(t *testing.T) {
	lengths := map[int64]bool{}
	for _, p := range fields {
		table := spreadsOfAll(p)
		for _, n := range someIndexes(p) {
			for s := range p {
				want := numbersWhere(p, func(t int64) bool { return table[t][n] == s })
				list, code := impl.LedTo(p, n, s)
				if !slices.Equal(list, want) || code != impl.ErrNone {
					t.Errorf("LedTo(%d, %d, %d) = %v, %d, want %v", p, n, s, list, code, want)
				}
				if len(list) == int(p) {
					lengths[-1] = true
				}
				lengths[int64(len(list))] = true
			}
		}
	}
	for _, length := range []int64{-1, 0, 1, 2, 3} {
		if !lengths[length] {
			t.Errorf("no list of the length %d (-1: of all numbers) was tested", length)
		}
	}
}

func TestZeros(t *testing.T) {
	all, one := 0, 0
	for _, p := range fields {
		table := spreadsOfAll(p)
		for n := range int64(impl.MaxIndex + 1) {
			want := numbersWhere(p, func(s int64) bool { return table[s][n] == 0 })
			zeros, code := impl.ZerosOf(p, n)
			if !slices.Equal(zeros, want) || code != impl.ErrNone {
				t.Errorf("ZerosOf(%d, %d) = %v, %d, want %v", p, n, zeros, code, want)
			}
			if len(zeros) == int(p) && n > 0 {
				all++
			}
			if len(zeros) == 1 {
				one++
			}
		}
	}
	if all == 0 || one == 0 {
		t.Errorf("all numbers are zeros %d times, one number is %d times", all, one)
	}
}

func TestZerosAreTheNumbersWhoseOrdersDivide(t *testing.T) {
	for _, p := range fields {
		var orders []int64
		for s := range p {
			order, code := impl.OrderOfSpread(p, s)
			if code != impl.ErrNone {
				t.Fatalf("OrderOfSpread(%d, %d): code %d", p, s, code)
			}
			orders = append(orders, order)
		}
		for n := range int64(impl.MaxIndex + 1) {
			zeros, _ := impl.ZerosOf(p, n)
			want := numbersWhere(p, func(s int64) bool { return n%orders[s] == 0 })
			if !slices.Equal(zeros, want) {
				t.Errorf("ZerosOf(%d, %d) = %v, orders that divide: %v", p, n, zeros, want)
			}
		}
	}
}

func orderIn(spreads []int64) int64 {
	return int64(slices.Index(spreads[1:], 0) + 1)
}

// periodIn takes numbers to be the same from somewhere on if they are so up to the last one.
func periodIn(spreads []int64) int64 {
	m := 1
	for !slices.Equal(spreads[m:], spreads[:len(spreads)-m]) {
		m++
	}
	return int64(m)
}

func TestOrdersAndPeriods(t *testing.T) {
	inNumbers(func(p, s int64, spreads []int64) {
		order, code1 := impl.OrderOfSpread(p, s)
		if want := orderIn(spreads); order != want || code1 != impl.ErrNone {
			t.Errorf("OrderOfSpread(%d, %d) = %d, %d, want %d", p, s, order, code1, want)
		}
		period, code2 := impl.PeriodOfSpread(p, s)
		if want := periodIn(spreads); period != want || code2 != impl.ErrNone {
			t.Errorf("PeriodOfSpread(%d, %d) = %d, %d, want %d", p, s, period, code2, want)
		}
		if order < 1 || period < 1 || period%order != 0 {
			t.Errorf("for %d, %d has the order %d and the period %d", p, s, order, period)
		}
	})
}

func TestSpreadsBySpreadPolynomialComeAgainAfterThePeriod(t *testing.T) {
	for _, p := range fields {
		for s := range p {
			period, _ := impl.PeriodOfSpread(p, s)
			for n := range 2 * period {
				first, code1 := impl.SpreadPolynomial(p, n, s)
				again, code2 := impl.SpreadPolynomial(p, n+period, s)
				if first != again || max(code1, code2) != impl.ErrNone {
					t.Errorf("for %d and %d: S(%d) = %d, S(%d) = %d", p, s, n, first, n+period, again)
				}
			}
		}
	}
}

func TestSpreadsOfOrders(t *testing.T) {
	for _, p := range fields {
		table := spreadsOfAll(p)
		all, none := int64(0), 0
		for n := int64(1); n <= impl.MaxIndex; n++ {
			want := numbersWhere(p, func(s int64) bool { return orderIn(table[s]) == n })
			list, code := impl.SpreadsOfOrder(p, n)
			if !slices.Equal(list, want) || code != impl.ErrNone {
				t.Errorf("SpreadsOfOrder(%d, %d) = %v, %d, want %v", p, n, list, code, want)
			}
			all += int64(len(list))
			if len(list) == 0 {
				none++
			}
		}
		if all != p || none == 0 {
			t.Errorf("for %d, %d numbers have orders, and %d orders have no number", p, all, none)
		}
	}
}

func TestOrdersOfAllNumbers(t *testing.T) {
	for _, p := range fields {
		orders, counts, code := impl.OrdersOf(p)
		if len(orders) != len(counts) || code != impl.ErrNone {
			t.Fatalf("OrdersOf(%d) = %v, %v, %d", p, orders, counts, code)
		}
		sum := int64(0)
		for i, n := range orders {
			if i > 0 && orders[i-1] >= n {
				t.Errorf("OrdersOf(%d): %v are not ascending", p, orders)
			}
			spreads, _ := impl.SpreadsOfOrder(p, n)
			if counts[i] != int64(len(spreads)) || counts[i] == 0 {
				t.Errorf("OrdersOf(%d): %d has the count %d, its numbers are %v", p, n, counts[i], spreads)
			}
			sum += counts[i]
		}
		if sum != p {
			t.Errorf("OrdersOf(%d): the counts %v make %d", p, counts, sum)
		}
	}
}

// walkIn says anew what the first numbers of a walk are.
func walkIn(table [][]int64, n, s, k int64) []int64 {
	list := []int64{s}
	for range k {
		s = table[s][n]
		list = append(list, s)
	}
	return list
}

func TestWalks(t *testing.T) {
	for _, p := range fields {
		table := spreadsOfAll(p)
		for _, n := range someIndexes(p) {
			for s := range p {
				whole := walkIn(table, n, s, 100)
				for _, k := range []int64{0, 1, 2, 3, p, 99, 100} {
					list, code := impl.WalkOf(p, n, s, k)
					if !slices.Equal(list, whole[:k+1]) || code != impl.ErrNone {
						t.Errorf("WalkOf(%d, %d, %d, %d) = %v, %d, want %v", p, n, s, k, list, code, whole[:k+1])
					}
				}
			}
		}
	}
}

func TestWalksOfEveryLength(t *testing.T) {
	for _, p := range fields {
		for k := range int64(101) {
			list, code := impl.WalkOf(p, 2, p-2, k)
			if int64(len(list)) != k+1 || list[0] != p-2 || code != impl.ErrNone {
				t.Fatalf("WalkOf(%d, 2, %d, %d) = %v, %d", p, p-2, k, list, code)
			}
			for i := range k {
				if next, _ := impl.SpreadPolynomial(p, 2, list[i]); list[i+1] != next {
					t.Errorf("WalkOf(%d, 2, %d, %d): %d comes behind %d, want %d", p, p-2, k, list[i+1], list[i], next)
				}
			}
		}
	}
}

// roundIn takes the least tail from which on the walk has a number again, and the least way to it.
func roundIn(walk []int64) (int64, int64) {
	for tail, s := range walk {
		if way := slices.Index(walk[tail+1:], s); way >= 0 {
			return int64(tail), int64(way + 1)
		}
	}
	return -1, -1
}

func TestWalkRounds(t *testing.T) {
	tails, rounds := map[int64]bool{}, map[int64]bool{}
	for _, p := range fields {
		table := spreadsOfAll(p)
		for _, n := range someIndexes(p) {
			for s := range p {
				tail, round := roundIn(walkIn(table, n, s, 2*p))
				tails[tail], rounds[round] = true, true
				if x, y, code := impl.WalkRound(p, n, s); x != tail || y != round || code != impl.ErrNone {
					t.Errorf("WalkRound(%d, %d, %d) = %d, %d, %d, want %d, %d", p, n, s, x, y, code, tail, round)
				}
			}
		}
	}
	if len(tails) < 4 || len(rounds) < 4 {
		t.Errorf("there are only the tails %v and the rounds %v", tails, rounds)
	}
}

// The walk of a number by 0 is at 0 from the first step on, and its walk by 1 stays where it is.
func TestWalksBy0And1(t *testing.T) {
	for _, p := range fields {
		for s := range p {
			stays, code := impl.WalkOf(p, 1, s, 2)
			if !slices.Equal(stays, []int64{s, s, s}) || code != impl.ErrNone {
				t.Errorf("WalkOf(%d, 1, %d, 2) = %v, %d", p, s, stays, code)
			}
			falls, code := impl.WalkOf(p, 0, s, 2)
			if !slices.Equal(falls, []int64{s, 0, 0}) || code != impl.ErrNone {
				t.Errorf("WalkOf(%d, 0, %d, 2) = %v, %d", p, s, falls, code)
			}
			if tail, round, code := impl.WalkRound(p, 1, s); tail != 0 || round != 1 || code != impl.ErrNone {
				t.Errorf("WalkRound(%d, 1, %d) = %d, %d, %d", p, s, tail, round, code)
			}
			if tail, round, code := impl.WalkRound(p, 0, s); tail != min(s, 1) || round != 1 || code != impl.ErrNone {
				t.Errorf("WalkRound(%d, 0, %d) = %d, %d, %d", p, s, tail, round, code)
			}
		}
	}
}

// The walk that WalkOf takes comes round where WalkRound says, and no sooner.
func TestWalksComeRoundAsTold(t *testing.T) {
	for _, p := range fields {
		for _, n := range []int64{0, 1, 2, 3, 6, 7, impl.MaxIndex} {
			for s := range p {
				tail, round, code1 := impl.WalkRound(p, n, s)
				list, code2 := impl.WalkOf(p, n, s, tail+round)
				if max(code1, code2) != impl.ErrNone || round < 1 || list[tail+round] != list[tail] {
					t.Fatalf("the walk of %d by %d for %d: tail %d, round %d, %v", s, n, p, tail, round, list)
				}
				path := slices.Sorted(slices.Values(list[:tail+round]))
				if int64(len(slices.Compact(path))) != tail+round {
					t.Errorf("the walk of %d by %d for %d: tail %d, round %d, but %v comes round sooner", s, n, p, tail, round, list)
				}
			}
		}
	}
}

func TestPermutations(t *testing.T) {
	for _, p := range fields {
		table := spreadsOfAll(p)
		answers := map[bool]int{}
		for n := range int64(impl.MaxIndex + 1) {
			seen := map[int64]bool{}
			for s := range p {
				seen[table[s][n]] = true
			}
			want := len(seen) == int(p)
			answers[want]++
			if is, code := impl.IsPermutation(p, n); is != want || code != impl.ErrNone {
				t.Errorf("IsPermutation(%d, %d) = %v, %d, want %v", p, n, is, code, want)
			}
		}
		if answers[true] < 2 || answers[false] < 2 {
			t.Errorf("for %d, there are %v answers", p, answers)
		}
	}
}

func listsOfPolynomials() [][]int64 {
	coefficients, _ := impl.CoefficientsOf(7, 4)
	values, _ := impl.ValuesOf(7, 4)
	zeros, _ := impl.ZerosOf(7, 4)
	led, _ := impl.LedTo(7, 4, 1)
	spreads, _ := impl.SpreadsOfOrder(7, 8)
	orders, counts, _ := impl.OrdersOf(7)
	walk, _ := impl.WalkOf(7, 2, 5, 6)
	return [][]int64{coefficients, values, zeros, led, spreads, orders, counts, walk}
}

func TestPolynomialListsAreNew(t *testing.T) {
	lists := listsOfPolynomials()
	var kept [][]int64
	for i, list := range lists {
		if len(list) == 0 {
			t.Errorf("list %d is empty", i)
		}
		kept = append(kept, slices.Clone(list))
	}
	for range 2 {
		for i, list := range listsOfPolynomials() {
			if !slices.Equal(list, kept[i]) {
				t.Errorf("list %d depends on what was done with others: %v, want %v", i, list, kept[i])
			}
			clear(list[:cap(list)])
		}
	}
	for i, list := range lists {
		if !slices.Equal(list, kept[i]) {
			t.Errorf("list %d shares memory with others: %v, want %v", i, list, kept[i])
		}
	}
}

func TestLayer5Examples(t *testing.T) {
	if list, code := impl.CoefficientsOf(31, 2); !slices.Equal(list, []int64{0, 4, 27}) || code != impl.ErrNone {
		t.Errorf("CoefficientsOf(31, 2) = %v, %d", list, code)
	}
	if list, code := impl.CoefficientsOf(31, 0); !slices.Equal(list, []int64{0}) || code != impl.ErrNone {
		t.Errorf("CoefficientsOf(31, 0) = %v, %d", list, code)
	}
	if impl.MaxDegree != 40 || impl.MaxIndex != 1000 {
		t.Errorf("the bounds are %d and %d", impl.MaxDegree, impl.MaxIndex)
	}
}
