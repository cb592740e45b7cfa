package tests

import (
	"math"
	"slices"
	"sync"
	"testing"

	"loop.example/wardstaff/impl"
)

// outsideGroupNear lists a few numbers that are no group elements, for tests that try them at every position.
func outsideGroupNear() []int {
	return []int{0, 5, 46, 48, -1, 23, 47, math.MinInt, math.MaxInt}
}

// commitmentTo looks each element up, unlike the program.
func commitmentTo(p []int) []int {
	var c []int
	for _, n := range p {
		c = append(c, groupPowers()[n])
	}
	return c
}

// commitments lists all of one and two elements, and many of three to five.
func commitments() [][]int {
	var list [][]int
	for _, p := range polynomials() {
		list = append(list, commitmentTo(p))
	}
	return list
}

// fewCommitments lists some of each length, for tests of pairs.
func fewCommitments() [][]int {
	var list [][]int
	for _, p := range fewPolynomials() {
		list = append(list, commitmentTo(p))
	}
	return list
}

// outsideCommitments lists slices that are no commitments: empty, too long, and with an invalid element at each position.
func outsideCommitments() [][]int {
	list := [][]int{nil, {}, {1, 1, 1, 1, 1, 1}, {2, 4, 8, 16, 32, 17}, groupPowers(), make([]int, 5), {1, 2, 3, 4, 6, 5}, {0, 5}, {46, 46}}
	for length := 1; length <= 5; length++ {
		for i := range length {
			for _, bad := range outsideGroupNear() {
				list = append(list, with([]int{1, 2, 24, 17, 3}[:length], i, bad))
			}
		}
	}
	return list
}

// P29
func TestCommitOfHasGroupOfOfEachCoefficient(t *testing.T) {
	for _, p := range polynomials() {
		if got := impl.CommitOf(p); !slices.Equal(got, commitmentTo(p)) {
			t.Errorf("CommitOf(%v) is %v, not %v", p, got, commitmentTo(p))
		}
	}
}

// P29
func TestCommitOfAtNamedValues(t *testing.T) {
	for _, c := range []struct{ p, want []int }{
		{[]int{3, 1}, []int{8, 2}},
		{[]int{0}, []int{1}},
		{[]int{22}, []int{24}},
		{[]int{0, 0, 0, 0, 0}, []int{1, 1, 1, 1, 1}},
		{[]int{6, 0, 22, 1, 7}, []int{17, 1, 24, 2, 34}},
	} {
		if got := impl.CommitOf(c.p); !slices.Equal(got, c.want) {
			t.Errorf("CommitOf(%v) is %v, not %v", c.p, got, c.want)
		}
	}
}

// P29
func TestDifferentPolynomialsHaveDifferentCommitments(t *testing.T) {
	for _, list := range [][][]int{tuples(upTo22(), 1), tuples(upTo22(), 2), tuples(upTo22(), 3), tuples([]int{0, 1, 2, 11, 22}, 4), tuples([]int{0, 1, 11, 22}, 5)} {
		seen := map[[5]int]bool{}
		for _, p := range list {
			var key [5]int
			copy(key[:], impl.CommitOf(p))
			if seen[key] {
				t.Errorf("CommitOf(%v) is %v, as of another one", p, key)
			}
			seen[key] = true
		}
	}
}

// Section of CommitOf: empty if p is no polynomial.
func TestCommitOfNoPolynomialIsEmpty(t *testing.T) {
	for _, bad := range outsidePolynomials() {
		if got := impl.CommitOf(bad); len(got) != 0 {
			t.Errorf("CommitOf(%v) is %v, not empty", bad, got)
		}
	}
	for i := range 5 {
		for _, n := range outsideField() {
			bad := with([]int{1, 0, 22, 5, 9}, i, n)
			if got := impl.CommitOf(bad); len(got) != 0 {
				t.Errorf("CommitOf(%v) is %v, not empty", bad, got)
			}
		}
	}
}

// P30
func TestCommitAtOfCommitOfIsGroupOfOfPolyAt(t *testing.T) {
	for _, p := range polynomials() {
		c := impl.CommitOf(p)
		for x := range 23 {
			if got, want := impl.CommitAt(c, x), impl.GroupOf(impl.PolyAt(p, x)); got != want {
				t.Errorf("CommitAt(%v, %d) is %d, but the value of %v there is shown by %d", c, x, got, p, want)
			}
		}
	}
}

// P30, as values: what the general law leaves open.
func TestCommitAtShowsTheValueOfThePolynomial(t *testing.T) {
	for _, p := range polynomials() {
		for x := range 23 {
			want := groupPowers()[valueAt(p, x)]
			if got := impl.CommitAt(commitmentTo(p), x); got != want {
				t.Errorf("CommitAt(%v, %d) is %d, not %d", commitmentTo(p), x, got, want)
			}
		}
	}
}

// P30
func TestCommitAtAtNamedValues(t *testing.T) {
	for _, c := range []struct {
		c       []int
		x, want int
	}{
		{[]int{8, 2}, 2, 32},
		{[]int{8, 2}, 0, 8},
		{[]int{8, 2}, 22, 4},
		{[]int{24}, 0, 24},
		{[]int{24}, 22, 24},
		{[]int{1, 1, 1, 1, 1}, 22, 1},
		{[]int{1, 1, 1, 1, 2}, 22, 2},
		{[]int{1, 1, 1, 1, 2}, 0, 1},
		{[]int{2, 4, 8, 16, 32}, 0, 2},
		{[]int{2, 2, 2, 2, 2}, 1, 32},
	} {
		if got := impl.CommitAt(c.c, c.x); got != c.want {
			t.Errorf("CommitAt(%v, %d) is %d, not %d", c.c, c.x, got, c.want)
		}
	}
}

// P31
func TestCommitAtFollowsHornersRuleInTheExponent(t *testing.T) {
	for _, c := range commitments() {
		if got := impl.CommitAt(c, 0); got != c[0] {
			t.Errorf("CommitAt(%v, 0) is %d", c, got)
		}
		for x := range 23 {
			want := c[0]
			if len(c) > 1 {
				want = impl.GroupMul(c[0], impl.GroupPow(impl.CommitAt(c[1:], x), x))
			}
			if got := impl.CommitAt(c, x); got != want {
				t.Errorf("CommitAt(%v, %d) is %d, and by the rule %d", c, x, got, want)
			}
		}
	}
}

// Section of CommitAt: 0 if c is no commitment or x no field element.
func TestCommitAtOfInvalidArgumentsIsZero(t *testing.T) {
	check := func(c []int, x int) {
		if got := impl.CommitAt(c, x); got != 0 {
			t.Errorf("CommitAt(%v, %d) is %d, not 0", c, x, got)
		}
	}
	for _, bad := range outsideCommitments() {
		for x := range 23 {
			check(bad, x)
		}
		check(bad, -1)
		check(bad, math.MaxInt)
	}
	for _, c := range fewCommitments() {
		for _, x := range outsideField() {
			check(c, x)
		}
	}
}

// fitting lists the numbers from the field and outside of it that fit.
func fitting(c []int, x int) []int {
	var list []int
	for _, n := range slices.Concat(upTo22(), outsideField()) {
		if impl.CommitFits(c, x, n) {
			list = append(list, n)
		}
	}
	return list
}

// P32, for commitments as they are given.
func TestExactlyOneNumberFitsAtEachPoint(t *testing.T) {
	for _, c := range slices.Concat(fewCommitments(), tuples(groupPowers(), 1), tuples([]int{1, 3, 24, 34}, 2), tuples([]int{2, 17, 36}, 5)) {
		for x := range 23 {
			list := fitting(c, x)
			if len(list) != 1 || impl.GroupOf(list[0]) != impl.CommitAt(c, x) {
				t.Errorf("%v fit %v at %d", list, c, x)
			}
		}
	}
}

// P32 and P33
func TestOnlyTheValueFitsTheCommitment(t *testing.T) {
	for _, p := range slices.Concat(fewPolynomials(), tuples(upTo22(), 1), tuples([]int{0, 1, 2, 21, 22}, 3)) {
		c := impl.CommitOf(p)
		for x := range 23 {
			if list := fitting(c, x); !slices.Equal(list, []int{impl.PolyAt(p, x)}) {
				t.Errorf("%v fit the commitment to %v at %d, not only %d", list, p, x, impl.PolyAt(p, x))
			}
		}
	}
}

// P33, with shares that are 0 and points at both ends.
func TestCommitFitsAtNamedValues(t *testing.T) {
	for _, c := range []struct {
		c    []int
		x, n int
		want bool
	}{
		{[]int{8, 2}, 2, 5, true},
		{[]int{8, 2}, 2, 6, false},
		{[]int{8, 2}, 20, 0, true},
		{[]int{8, 2}, 20, 23, false},
		{[]int{8, 2}, 0, 3, true},
		{[]int{8, 2}, 22, 2, true},
		{[]int{8, 2}, 22, 0, false},
		{[]int{1}, 0, 0, true},
		{[]int{1}, 22, 1, false},
		{[]int{1, 1, 1, 1, 1}, 22, 0, true},
		{[]int{1, 1, 1, 1, 2}, 1, 1, true},
		{[]int{1, 1, 1, 1, 2}, 1, 24, false},
	} {
		if got := impl.CommitFits(c.c, c.x, c.n); got != c.want {
			t.Errorf("CommitFits(%v, %d, %d) is %v", c.c, c.x, c.n, got)
		}
	}
}

// Section of CommitFits: false if an argument is invalid, also where GroupOf and CommitAt are both 0.
func TestCommitFitsOfInvalidArgumentsIsFalse(t *testing.T) {
	check := func(c []int, x, n int) {
		if impl.CommitFits(c, x, n) {
			t.Errorf("%d fits %v at %d", n, c, x)
		}
	}
	numbers := slices.Concat(upTo22(), []int{-1, 23, math.MinInt, math.MaxInt})
	for _, bad := range outsideCommitments() {
		for _, x := range []int{0, 1, 2, 22, 23, -1} {
			for _, n := range numbers {
				check(bad, x, n)
			}
		}
	}
	for _, c := range fewCommitments() {
		for _, bad := range outsideField() {
			for _, n := range numbers {
				check(c, bad, n)
			}
			for x := range 23 {
				check(c, x, bad)
			}
		}
	}
}

// P34
func TestCommitSumIsTheCommitmentToTheSum(t *testing.T) {
	for _, a := range fewPolynomials() {
		for _, b := range fewPolynomials() {
			c, d := impl.CommitOf(a), impl.CommitOf(b)
			got, want := impl.CommitSum(c, d), impl.CommitOf(impl.PolySum(a, b))
			if len(got) != max(len(a), len(b)) || !slices.Equal(got, want) {
				t.Errorf("CommitSum(%v, %v) is %v, not %v", c, d, got, want)
			}
		}
	}
}

// P34
func TestCommitAtOfCommitSumIsTheProduct(t *testing.T) {
	for _, a := range fewCommitments() {
		for _, b := range fewCommitments() {
			sum := impl.CommitSum(a, b)
			for x := range 23 {
				got, want := impl.CommitAt(sum, x), impl.GroupMul(impl.CommitAt(a, x), impl.CommitAt(b, x))
				if got != want {
					t.Errorf("CommitSum(%v, %v) at %d is %d, not the product %d", a, b, x, got, want)
				}
			}
		}
	}
}

// P34, as values: element by element, with those of the longer one as they are.
func TestCommitSumMultipliesTheElements(t *testing.T) {
	for _, a := range fewCommitments() {
		for _, b := range fewCommitments() {
			want := slices.Clone(a)
			for i, n := range b {
				if i < len(a) {
					want[i] = a[i] * n % 47
				} else {
					want = append(want, n)
				}
			}
			if got := impl.CommitSum(a, b); !slices.Equal(got, want) {
				t.Errorf("CommitSum(%v, %v) is %v, not %v", a, b, got, want)
			}
		}
	}
}

// P34
func TestCommitSumAtNamedValues(t *testing.T) {
	for _, c := range []struct{ a, b, want []int }{
		{[]int{8, 2}, []int{4}, []int{32, 2}},
		{[]int{4}, []int{8, 2}, []int{32, 2}},
		{[]int{2, 24}, []int{24, 2}, []int{1, 1}},
		{[]int{1}, []int{1, 1, 1, 1, 1}, []int{1, 1, 1, 1, 1}},
		{[]int{32, 1, 3, 36, 24}, []int{4, 1, 2}, []int{34, 1, 6, 36, 24}},
	} {
		if got := impl.CommitSum(c.a, c.b); !slices.Equal(got, c.want) {
			t.Errorf("CommitSum(%v, %v) is %v, not %v", c.a, c.b, got, c.want)
		}
	}
}

// Section of CommitSum: empty if one argument or both are no commitments.
func TestCommitSumOfInvalidArgumentsIsEmpty(t *testing.T) {
	check := func(a, b []int) {
		if got := impl.CommitSum(a, b); len(got) != 0 {
			t.Errorf("CommitSum(%v, %v) is %v, not empty", a, b, got)
		}
	}
	for _, bad := range outsideCommitments() {
		for _, c := range fewCommitments() {
			check(bad, c)
			check(c, bad)
		}
		for _, other := range outsideCommitments() {
			check(bad, other)
		}
	}
}

// P35
func TestACommitmentStaysValidWithoutItsLastElement(t *testing.T) {
	for _, c := range commitments() {
		for length := 1; length <= len(c); length++ {
			if !impl.CommitOk(c[:length]) {
				t.Errorf("%v is no commitment", c[:length])
			}
		}
		if impl.CommitOk(c[:0]) {
			t.Error("no elements are a commitment")
		}
	}
}

// P35
func TestACommitmentWithAnElementOutsideTheGroupIsInvalid(t *testing.T) {
	for _, c := range fewCommitments() {
		for i := range c {
			for _, bad := range outsideGroup() {
				if impl.CommitOk(with(c, i, bad)) {
					t.Errorf("%v is a commitment", with(c, i, bad))
				}
			}
		}
	}
}

// P35, and the limits of 1 and PolyMax elements.
func TestCommitOkIsFalseForNoCommitments(t *testing.T) {
	for _, bad := range outsideCommitments() {
		if impl.CommitOk(bad) {
			t.Errorf("%v is a commitment", bad)
		}
	}
}

// checkToldApart fails the test if two of the polynomials have commitments that agree at all the places.
func checkToldApart(t *testing.T, polys [][]int, places []int) {
	t.Helper()
	seen := map[[5]int][]int{}
	for _, p := range polys {
		c := impl.CommitOf(p)
		var values [5]int
		for i, x := range places {
			values[i] = impl.CommitAt(c, x)
		}
		if other, ok := seen[values]; ok {
			t.Errorf("the commitments to %v and %v agree at %v", p, other, places)
		}
		seen[values] = p
	}
}

// P36
func TestCommitmentsThatAgreeAtAsManyPointsAreEqual(t *testing.T) {
	for x := range 23 {
		checkToldApart(t, tuples(upTo22(), 1), []int{x})
	}
	for _, places := range arrangements([]int{0, 1, 2, 11, 21, 22}, 2) {
		checkToldApart(t, tuples(upTo22(), 2), places)
	}
	for _, places := range [][]int{{1, 2, 3}, {0, 22, 11}} {
		checkToldApart(t, tuples(upTo22(), 3), places)
	}
	for _, places := range [][]int{{1, 2, 3, 4}, {22, 0, 5, 9}} {
		checkToldApart(t, tuples([]int{0, 1, 7, 13, 22}, 4), places)
	}
	for _, places := range [][]int{{1, 2, 3, 4, 5}, {0, 22, 11, 6, 3}} {
		checkToldApart(t, tuples([]int{0, 1, 9, 22}, 5), places)
	}
}

// P36: at one point less, different commitments can agree.
func TestCommitmentsCanAgreeAtOnePointLess(t *testing.T) {
	zeros := []int{1}
	for i, root := range []int{0, 22, 6, 15} {
		zeros = timesXMinus(zeros, root)
		p := []int{4, 0, 19, 22, 1}[:i+2]
		c, d := impl.CommitOf(p), impl.CommitOf(impl.PolySum(p, zeros))
		var agree []int
		for x := range 23 {
			if impl.CommitAt(c, x) == impl.CommitAt(d, x) {
				agree = append(agree, x)
			}
		}
		if want := slices.Sorted(slices.Values([]int{0, 22, 6, 15}[:i+1])); !slices.Equal(agree, want) {
			t.Errorf("%v and %v agree at %v, not at %v", c, d, agree, want)
		}
	}
}

// P37
func TestEveryGroupElementIsTheCommitmentToExactlyOneFieldElement(t *testing.T) {
	times := map[int]int{}
	for n := range 23 {
		c := impl.CommitOf([]int{n})
		if len(c) != 1 || !impl.CommitOk(c) {
			t.Fatalf("CommitOf of %d is %v", n, c)
		}
		times[c[0]]++
	}
	for _, a := range groupPowers() {
		if times[a] != 1 {
			t.Errorf("%d is the commitment to %d field elements", a, times[a])
		}
	}
	if len(times) != 23 {
		t.Errorf("there are %d commitments", len(times))
	}
}

// P38
func TestRaisingACommitmentIsTheCommitmentToTheMultiple(t *testing.T) {
	for _, p := range polynomials() {
		c := impl.CommitOf(p)
		for factor := range 23 {
			var raised, multiple []int
			for i := range p {
				raised = append(raised, impl.GroupPow(c[i], factor))
				multiple = append(multiple, impl.FieldMul(p[i], factor))
			}
			if !slices.Equal(raised, impl.CommitOf(multiple)) {
				t.Errorf("%v raised to %d is not the commitment to %v", c, factor, multiple)
			}
		}
	}
}

// General rules: a call depends on its arguments alone, also while others run.
func TestCommitmentsAtTheSameTimeAreTheSame(t *testing.T) {
	var callers sync.WaitGroup
	for range 8 {
		callers.Go(func() {
			for _, p := range fewPolynomials() {
				c := impl.CommitOf(p)
				if !slices.Equal(c, commitmentTo(p)) || !slices.Equal(impl.CommitSum(c, []int{1}), c) {
					t.Errorf("CommitOf(%v) is %v", p, c)
				}
			}
		})
	}
	callers.Wait()
}

// General rules: results are new memory, and arguments stay as they are.
func TestCommitmentsShareNoMemory(t *testing.T) {
	lists := slices.Concat(
		fewCommitments(),
		[][]int{nil, {1, 1}, {22, 0, 11, 4}, {1, 2, 3, 4, 6, 7}, {5}, {1, 46}, {1, 2, 3, 4, 5}},
	)
	for _, a := range lists {
		checkMemory(t, "CommitOf", func(given [][]int) []int {
			return impl.CommitOf(given[0])
		}, a)
		for _, x := range []int{0, 1, 22, 23} {
			checkMemory(t, "CommitOk, CommitAt and CommitFits", func(given [][]int) []int {
				impl.CommitOk(given[0])
				impl.CommitFits(given[0], x, x)
				return []int{impl.CommitAt(given[0], x)}
			}, a)
		}
		checkMemory(t, "CommitSum of itself", func(given [][]int) []int {
			return impl.CommitSum(given[0], given[0])
		}, a)
		for _, b := range lists {
			checkMemory(t, "CommitSum", func(given [][]int) []int {
				return impl.CommitSum(given[0], given[1])
			}, a, b)
		}
	}
	for _, p := range fewPolynomials() {
		checkMemory(t, "CommitOf", func(given [][]int) []int {
			return impl.CommitOf(given[0])
		}, p)
	}
}
