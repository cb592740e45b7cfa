package tests

import (
	"math"
	"slices"
	"testing"

	"loop.example/wardstaff/impl"
)

// tuples lists all slices of the length whose numbers are from choices.
func tuples(choices []int, length int) [][]int {
	list := [][]int{{}}
	for range length {
		var longer [][]int
		for _, tuple := range list {
			for _, n := range choices {
				longer = append(longer, append(slices.Clone(tuple), n))
			}
		}
		list = longer
	}
	return list
}

// arrangements lists all slices of the length whose numbers are different ones from choices, in every order.
func arrangements(choices []int, length int) [][]int {
	return slices.DeleteFunc(tuples(choices, length), func(tuple []int) bool {
		for i, n := range tuple {
			if slices.Contains(tuple[:i], n) {
				return true
			}
		}
		return false
	})
}

// upTo22 lists the field elements.
func upTo22() []int {
	var list []int
	for n := range 23 {
		list = append(list, n)
	}
	return list
}

// polynomials lists all of one and two coefficients, and many of three to five, zeros at the end included.
func polynomials() [][]int {
	return slices.Concat(
		tuples(upTo22(), 1),
		tuples(upTo22(), 2),
		tuples([]int{0, 1, 2, 11, 13, 22}, 3),
		tuples([]int{0, 1, 7, 22}, 4),
		tuples([]int{0, 1, 7, 22}, 5),
	)
}

// fewPolynomials lists some of each length, for tests of pairs and triples.
func fewPolynomials() [][]int {
	return slices.Concat(
		tuples([]int{0, 1, 12, 22}, 1),
		tuples([]int{0, 5, 22}, 2),
		tuples([]int{1, 22}, 3),
		tuples([]int{0, 17}, 4),
		[][]int{{0, 0, 0, 0, 0}, {1, 2, 3, 4, 5}, {22, 22, 22, 22, 22}, {0, 0, 0, 0, 1}, {22, 21, 20, 19, 18}, {9, 0, 14, 0, 8}},
	)
}

// pointLists lists all points of up to two, and many of three to five, in every order.
func pointLists() [][]int {
	return slices.Concat(
		arrangements(upTo22(), 0),
		arrangements(upTo22(), 1),
		arrangements(upTo22(), 2),
		arrangements([]int{0, 1, 2, 5, 11, 12, 21, 22}, 3),
		arrangements([]int{0, 1, 2, 13, 21, 22}, 4),
		arrangements([]int{0, 1, 7, 9, 22}, 5),
		[][]int{{1, 2, 3, 4, 5}, {5, 4, 3, 2, 1}, {18, 19, 20, 21, 22}, {4, 20, 6, 16, 11}},
	)
}

// outsideFieldNear lists a few numbers that are no field elements, for tests that try them at every position.
func outsideFieldNear() []int {
	return []int{-1, 23, -23, 46, math.MinInt, math.MaxInt}
}

// with returns a copy of list with another number at the index.
func with(list []int, index, n int) []int {
	changed := slices.Clone(list)
	changed[index] = n
	return changed
}

// outsidePolynomials lists slices that are no polynomials: empty, too long, and with an invalid element at each position.
func outsidePolynomials() [][]int {
	list := [][]int{nil, {}, {0, 0, 0, 0, 0, 0}, {1, 2, 3, 4, 5, 6}, make([]int, 7), make([]int, 100), {1, 2, 3, 4, 5, 23}, {-1, 23}}
	for length := 1; length <= 5; length++ {
		for i := range length {
			for _, bad := range outsideFieldNear() {
				list = append(list, with(make([]int, length), i, bad))
			}
		}
	}
	return list
}

// outsidePlaces lists slices that are no points: too many, one out of range at each position, and one twice at each two positions.
func outsidePlaces() [][]int {
	list := [][]int{{0, 1, 2, 3, 4, 5}, {22, 21, 20, 19, 18, 17}, upTo22(), {1, 1}, {0, 0}, {22, 22}, {0, 0, 0}, {7, 7, 7, 7, 7}, {1, 2, 3, 4, 5, 5}, {-1, -1}}
	for length := 1; length <= 5; length++ {
		places := []int{3, 0, 22, 1, 14}[:length]
		for i := range places {
			for _, bad := range outsideFieldNear() {
				list = append(list, with(places, i, bad))
			}
			for j := range i {
				list = append(list, with(places, i, places[j]))
			}
		}
	}
	return list
}

// valueAt adds up the terms one by one, unlike Horner's rule.
func valueAt(p []int, x int) int {
	value, power := 0, 1
	for _, c := range p {
		value = (value + c*power) % 23
		power = power * x % 23
	}
	return value
}

// reversed returns a copy in the other order.
func reversed(list []int) []int {
	copied := slices.Clone(list)
	slices.Reverse(copied)
	return copied
}

func TestPolyMaxIs5(t *testing.T) {
	if impl.PolyMax != 5 {
		t.Errorf("PolyMax is %d", impl.PolyMax)
	}
}

// P20, as values: what the rule leaves open.
func TestPolyAtIsTheValueOfThePolynomial(t *testing.T) {
	for _, p := range polynomials() {
		for x := range 23 {
			if got := impl.PolyAt(p, x); got != valueAt(p, x) {
				t.Errorf("PolyAt(%v, %d) is %d, not %d", p, x, got, valueAt(p, x))
			}
		}
	}
}

func TestPolyAtAtNamedValues(t *testing.T) {
	for _, c := range []struct {
		p       []int
		x, want int
	}{
		{[]int{1, 2, 3}, 2, 17},
		{[]int{4}, 19, 4},
		{[]int{0, 0, 0, 0, 1}, 2, 16},
		{[]int{0, 0, 0, 0, 1}, 22, 1},
		{[]int{1, 1, 1, 1, 1}, 1, 5},
		{[]int{22, 22, 22, 22, 22}, 22, 22},
		{[]int{0, 1}, 22, 22},
	} {
		if got := impl.PolyAt(c.p, c.x); got != c.want {
			t.Errorf("PolyAt(%v, %d) is %d, not %d", c.p, c.x, got, c.want)
		}
	}
}

// P20
func TestPolyAtFollowsHornersRule(t *testing.T) {
	for _, p := range polynomials() {
		if got := impl.PolyAt(p, 0); got != p[0] {
			t.Errorf("PolyAt(%v, 0) is %d", p, got)
		}
		for x := range 23 {
			want := p[0]
			if len(p) > 1 {
				want = impl.FieldSum(p[0], impl.FieldMul(x, impl.PolyAt(p[1:], x)))
			}
			if got := impl.PolyAt(p, x); got != want {
				t.Errorf("PolyAt(%v, %d) is %d, and by the rule %d", p, x, got, want)
			}
		}
	}
}

// Section of PolyAt: 0 if p is no polynomial or x no field element.
func TestPolyAtOfInvalidArgumentsIsZero(t *testing.T) {
	check := func(p []int, x int) {
		if got := impl.PolyAt(p, x); got != 0 {
			t.Errorf("PolyAt(%v, %d) is %d, not 0", p, x, got)
		}
	}
	for _, bad := range outsidePolynomials() {
		for x := range 23 {
			check(bad, x)
		}
		check(bad, -1)
		check(bad, math.MaxInt)
	}
	for _, p := range fewPolynomials() {
		for _, x := range outsideField() {
			check(p, x)
		}
	}
}

// P21
func TestPolySumAddsTheValues(t *testing.T) {
	for _, a := range fewPolynomials() {
		for _, b := range fewPolynomials() {
			sum := impl.PolySum(a, b)
			if !slices.Equal(sum, impl.PolySum(b, a)) {
				t.Errorf("PolySum(%v, %v) depends on the order", a, b)
			}
			for x := range 23 {
				if impl.PolyAt(sum, x) != impl.FieldSum(impl.PolyAt(a, x), impl.PolyAt(b, x)) {
					t.Errorf("PolySum(%v, %v) at %d is not the sum of both values", a, b, x)
				}
			}
		}
	}
}

// P21: the sum has as many coefficients as the longer one, zeros at the end included.
func TestPolySumAddsTheCoefficients(t *testing.T) {
	for _, a := range fewPolynomials() {
		for _, b := range fewPolynomials() {
			want := make([]int, max(len(a), len(b)))
			for i := range want {
				if i < len(a) {
					want[i] += a[i]
				}
				if i < len(b) {
					want[i] += b[i]
				}
				want[i] %= 23
			}
			if got := impl.PolySum(a, b); !slices.Equal(got, want) {
				t.Errorf("PolySum(%v, %v) is %v, not %v", a, b, got, want)
			}
		}
	}
}

func TestPolySumAtNamedValues(t *testing.T) {
	for _, c := range []struct{ a, b, want []int }{
		{[]int{1, 22}, []int{5, 2, 7}, []int{6, 1, 7}},
		{[]int{3, 0, 22}, []int{20, 0, 1}, []int{0, 0, 0}},
		{[]int{22}, []int{22}, []int{21}},
		{[]int{1}, []int{0, 0, 0, 0, 0}, []int{1, 0, 0, 0, 0}},
	} {
		if got := impl.PolySum(c.a, c.b); !slices.Equal(got, c.want) {
			t.Errorf("PolySum(%v, %v) is %v, not %v", c.a, c.b, got, c.want)
		}
	}
}

// Section of PolySum: empty if one argument or both are no polynomials.
func TestPolySumOfInvalidArgumentsIsEmpty(t *testing.T) {
	check := func(a, b []int) {
		if got := impl.PolySum(a, b); len(got) != 0 {
			t.Errorf("PolySum(%v, %v) is %v, not empty", a, b, got)
		}
	}
	for _, bad := range outsidePolynomials() {
		for _, p := range fewPolynomials() {
			check(bad, p)
			check(p, bad)
		}
		for _, other := range outsidePolynomials() {
			check(bad, other)
		}
	}
}

// P22: by linearity, the powers of x up to the number of points stand for all polynomials.
func TestPolyLineWeightsPowersAtThePointsToThePowerElsewhere(t *testing.T) {
	for _, places := range pointLists() {
		for x := range 23 {
			line := impl.PolyLine(places, x)
			if len(line) != len(places) {
				t.Fatalf("PolyLine(%v, %d) is %v", places, x, line)
			}
			for degree := range places {
				power := make([]int, degree+1)
				power[degree] = 1
				sum := 0
				for i, place := range places {
					sum += line[i] * valueAt(power, place)
				}
				if sum%23 != valueAt(power, x) {
					t.Errorf("PolyLine(%v, %d) is %v, which fails for degree %d", places, x, line, degree)
				}
			}
		}
	}
}

// P22
func TestEnoughValuesTellThePolynomialElsewhere(t *testing.T) {
	for _, places := range [][]int{{0}, {22}, {9}, {0, 22}, {3, 1}, {22, 0, 11}, {1, 2, 3}, {4, 22, 0, 9}, {1, 2, 3, 4, 5}, {0, 22, 7, 1, 13}} {
		for x := range 23 {
			line := impl.PolyLine(places, x)
			if len(line) != len(places) {
				t.Fatalf("PolyLine(%v, %d) is %v", places, x, line)
			}
			for _, p := range polynomials() {
				if len(p) > len(places) {
					continue
				}
				sum := 0
				for i, place := range places {
					sum = impl.FieldSum(sum, impl.FieldMul(line[i], impl.PolyAt(p, place)))
				}
				if sum != impl.PolyAt(p, x) {
					t.Errorf("the values of %v at %v give %d at %d, not %d", p, places, sum, x, impl.PolyAt(p, x))
				}
			}
		}
	}
}

func TestPolyLineAtNamedValues(t *testing.T) {
	for _, c := range []struct {
		places []int
		x      int
		want   []int
	}{
		{[]int{1, 2}, 0, []int{2, 22}},
		{[]int{2, 1}, 0, []int{22, 2}},
		{[]int{1, 2, 3}, 0, []int{3, 20, 1}},
		{[]int{0, 22}, 1, []int{2, 22}},
		{[]int{5}, 17, []int{1}},
		{[]int{0}, 22, []int{1}},
		{nil, 0, nil},
		{[]int{}, 22, nil},
	} {
		if got := impl.PolyLine(c.places, c.x); !slices.Equal(got, c.want) {
			t.Errorf("PolyLine(%v, %d) is %v, not %v", c.places, c.x, got, c.want)
		}
	}
}

// P23
func TestPolyLineAtAPointTakesOnlyThisPoint(t *testing.T) {
	for _, places := range pointLists() {
		for chosen, x := range places {
			want := make([]int, len(places))
			want[chosen] = 1
			if got := impl.PolyLine(places, x); !slices.Equal(got, want) {
				t.Errorf("PolyLine(%v, %d) is %v, not %v", places, x, got, want)
			}
		}
	}
}

// P23
func TestPolyLineElsewhereHasNoZeroAndAddsUpToOne(t *testing.T) {
	for _, places := range pointLists() {
		for x := range 23 {
			line := impl.PolyLine(places, x)
			sum := 0
			for _, factor := range line {
				if !impl.FieldOk(factor) || factor == 0 && !slices.Contains(places, x) {
					t.Errorf("PolyLine(%v, %d) is %v", places, x, line)
				}
				sum = impl.FieldSum(sum, factor)
			}
			if len(places) > 0 && sum != 1 {
				t.Errorf("PolyLine(%v, %d) adds up to %d", places, x, sum)
			}
		}
	}
}

// Section of PolyLine: empty if places are no points or x is no field element.
func TestPolyLineOfInvalidArgumentsIsEmpty(t *testing.T) {
	check := func(places []int, x int) {
		if got := impl.PolyLine(places, x); len(got) != 0 {
			t.Errorf("PolyLine(%v, %d) is %v, not empty", places, x, got)
		}
	}
	for _, bad := range outsidePlaces() {
		for x := range 23 {
			check(bad, x)
		}
		check(bad, -1)
		check(bad, math.MinInt)
	}
	for _, places := range [][]int{nil, {0}, {22}, {1, 2}, {1, 2, 3, 4, 5}} {
		for _, x := range outsideField() {
			check(places, x)
		}
	}
}

// P24
func TestANonzeroPolynomialHasFewerZerosThanCoefficients(t *testing.T) {
	for _, p := range polynomials() {
		if !slices.ContainsFunc(p, func(c int) bool { return c != 0 }) {
			continue
		}
		zeros := 0
		for x := range 23 {
			if impl.PolyAt(p, x) == 0 {
				zeros++
			}
		}
		if zeros >= len(p) {
			t.Errorf("%v has %d zeros", p, zeros)
		}
	}
}

// P24: as many zeros as there can be are found.
func TestAPolynomialCanHaveOneZeroLessThanCoefficients(t *testing.T) {
	p := []int{1}
	for zeros, root := range []int{0, 22, 6, 15} {
		p = timesXMinus(p, root)
		var found []int
		for x := range 23 {
			if impl.PolyAt(p, x) == 0 {
				found = append(found, x)
			}
		}
		want := slices.Sorted(slices.Values([]int{0, 22, 6, 15}[:zeros+1]))
		if !slices.Equal(found, want) {
			t.Errorf("%v is 0 at %v, not at %v", p, found, want)
		}
	}
}

// timesXMinus multiplies p by the polynomial that is x minus the root.
func timesXMinus(p []int, root int) []int {
	product := make([]int, len(p)+1)
	for i, c := range p {
		product[i+1] = (product[i+1] + c) % 23
		product[i] = (product[i] + (23-root)*c) % 23
	}
	return product
}

// P25
func TestPointsStayValidWithOneRemoved(t *testing.T) {
	for _, places := range pointLists() {
		if !impl.PlacesOk(places) {
			t.Errorf("%v are no points", places)
		}
		for i := range places {
			if fewer := slices.Delete(slices.Clone(places), i, i+1); !impl.PlacesOk(fewer) {
				t.Errorf("%v are points, but not %v", places, fewer)
			}
		}
	}
}

// P25: repeated at the end, before it, and in the place of another one.
func TestPointsWithOneRepeatedAreInvalid(t *testing.T) {
	check := func(places []int) {
		if impl.PlacesOk(places) {
			t.Errorf("%v are points", places)
		}
	}
	for _, places := range pointLists() {
		for i, place := range places {
			check(append(slices.Clone(places), place))
			check(append([]int{place}, places...))
			for j := range places {
				if i != j {
					check(with(places, j, place))
				}
			}
		}
	}
}

// P25
func TestPointsWithOneOutOfRangeAreInvalid(t *testing.T) {
	for _, places := range [][]int{{0}, {22}, {1, 2}, {22, 0, 11}, {4, 22, 0, 9}, {1, 2, 3, 4, 5}} {
		for i := range places {
			for _, bad := range outsideField() {
				if impl.PlacesOk(with(places, i, bad)) {
					t.Errorf("%v are points", with(places, i, bad))
				}
			}
		}
	}
}

// P25, and the limit of PolyMax points.
func TestPlacesOkIsFalseForNoPoints(t *testing.T) {
	for _, bad := range outsidePlaces() {
		if impl.PlacesOk(bad) {
			t.Errorf("%v are points", bad)
		}
	}
	if !impl.PlacesOk(nil) || !impl.PlacesOk([]int{}) {
		t.Error("no points are not valid")
	}
}

// P26
func TestAPolynomialStaysValidWithoutItsLastCoefficients(t *testing.T) {
	for _, p := range polynomials() {
		for length := 1; length <= len(p); length++ {
			if !impl.PolyOk(p[:length]) {
				t.Errorf("%v is no polynomial", p[:length])
			}
		}
		if impl.PolyOk(p[:0]) {
			t.Error("no coefficients are a polynomial")
		}
	}
}

// P26
func TestAPolynomialWithAnInvalidElementIsInvalid(t *testing.T) {
	for _, p := range fewPolynomials() {
		for i := range p {
			for _, bad := range outsideField() {
				if impl.PolyOk(with(p, i, bad)) {
					t.Errorf("%v is a polynomial", with(p, i, bad))
				}
			}
		}
	}
}

// P26, and the limits of 1 and PolyMax coefficients.
func TestPolyOkIsFalseForNoPolynomials(t *testing.T) {
	for _, bad := range outsidePolynomials() {
		if impl.PolyOk(bad) {
			t.Errorf("%v is a polynomial", bad)
		}
	}
}

// P27
func TestPolySumIsAssociative(t *testing.T) {
	for _, a := range fewPolynomials() {
		for _, b := range fewPolynomials() {
			for _, c := range fewPolynomials() {
				if !slices.Equal(impl.PolySum(impl.PolySum(a, b), c), impl.PolySum(a, impl.PolySum(b, c))) {
					t.Errorf("PolySum of %v, %v and %v depends on the grouping", a, b, c)
				}
			}
		}
	}
}

// P28
func TestPolyLineOfReversedPointsIsReversed(t *testing.T) {
	for _, places := range pointLists() {
		for x := range 23 {
			line := impl.PolyLine(places, x)
			if len(line) != len(places) {
				t.Fatalf("PolyLine(%v, %d) is %v", places, x, line)
			}
			if got := impl.PolyLine(reversed(places), x); !slices.Equal(got, reversed(line)) {
				t.Errorf("PolyLine(%v, %d) is %v, and of the reversed points %v", places, x, line, got)
			}
		}
	}
}

// General rules: results are new memory, and arguments stay as they are.
func TestPolynomialsShareNoMemory(t *testing.T) {
	lists := slices.Concat(
		fewPolynomials(),
		[][]int{nil, {5, 1}, {2, 1, 0}, {22, 0, 11, 4}, {1, 2, 3, 4, 5, 6}, {23}, {1, 1}, {-1, 0}},
	)
	for _, a := range lists {
		checkMemory(t, "PolyOk and PlacesOk", func(given [][]int) []int {
			impl.PolyOk(given[0])
			impl.PlacesOk(given[0])
			return nil
		}, a)
		for _, x := range []int{0, 1, 22, 23} {
			checkMemory(t, "PolyAt", func(given [][]int) []int {
				return []int{impl.PolyAt(given[0], x)}
			}, a)
			checkMemory(t, "PolyLine", func(given [][]int) []int {
				return impl.PolyLine(given[0], x)
			}, a)
		}
		checkMemory(t, "PolySum of itself", func(given [][]int) []int {
			return impl.PolySum(given[0], given[0])
		}, a)
		for _, b := range lists {
			checkMemory(t, "PolySum", func(given [][]int) []int {
				return impl.PolySum(given[0], given[1])
			}, a, b)
		}
	}
}
