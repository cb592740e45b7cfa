package tests

import (
	"math"
	"testing"

	"loop.example/wardstaff/impl"
)

// groupPowers lists the powers of 2 modulo 47 to the exponents 0 to 22: the whole group.
func groupPowers() []int {
	return []int{1, 2, 4, 8, 16, 32, 17, 34, 21, 42, 37, 27, 7, 14, 28, 9, 18, 36, 25, 3, 6, 12, 24}
}

// outsideGroup lists numbers that are no group elements: all others below the modulus, numbers that are congruent to elements, and values at which int arithmetic wraps (the power of -3037000510 to 23, so computed, is 1).
func outsideGroup() []int {
	return []int{
		0, 5, 10, 11, 13, 15, 19, 20, 22, 23, 26, 29, 30, 31, 33, 35, 38, 39, 40, 41, 43, 44, 45, 46,
		47, 48, 49, 51, 55, 64, 94, 95, 96, 47*47 + 1, math.MaxInt32, math.MaxInt - 17, math.MaxInt - 1, math.MaxInt,
		-1, -2, -23, -24, -45, -46, -47, -93, math.MinInt32, -3037000510, math.MinInt + 1, math.MinInt,
	}
}

func TestConstantsOfTheGroup(t *testing.T) {
	if impl.GroupSize != 47 || impl.GroupBase != 2 {
		t.Errorf("GroupSize is %d and GroupBase %d", impl.GroupSize, impl.GroupBase)
	}
}

// P11
func TestGroupOkIsTrueForExactlyThePowersOfTheBase(t *testing.T) {
	isElement := map[int]bool{}
	for _, a := range groupPowers() {
		isElement[a] = true
	}
	if len(isElement) != 23 {
		t.Fatalf("the group has %d elements", len(isElement))
	}
	for n := -5000; n <= 5000; n++ {
		if impl.GroupOk(n) != isElement[n] {
			t.Errorf("GroupOk(%d) is not %v", n, isElement[n])
		}
	}
	for _, n := range outsideGroup() {
		if impl.GroupOk(n) {
			t.Errorf("GroupOk(%d)", n)
		}
	}
}

// P11
func TestGroupOkIsTrueForExactlyTheValuesOfGroupOf(t *testing.T) {
	isValue := map[int]bool{}
	for n := range 23 {
		isValue[impl.GroupOf(n)] = true
	}
	if len(isValue) != 23 {
		t.Errorf("GroupOf has %d values", len(isValue))
	}
	for n := -100; n <= 200; n++ {
		if impl.GroupOk(n) != isValue[n] {
			t.Errorf("GroupOk(%d) is not %v", n, isValue[n])
		}
	}
}

// P12, as values: what the general laws leave open.
func TestGroupMulIsModular(t *testing.T) {
	for _, a := range groupPowers() {
		for _, b := range groupPowers() {
			if got := impl.GroupMul(a, b); got != a*b%47 {
				t.Errorf("GroupMul(%d, %d) is %d, not %d", a, b, got, a*b%47)
			}
		}
	}
}

// P12
func TestGroupMulIsACommutativeGroup(t *testing.T) {
	for _, a := range groupPowers() {
		if impl.GroupMul(a, 1) != a || impl.GroupMul(1, a) != a {
			t.Errorf("1 is no identity for %d", a)
		}
		for _, b := range groupPowers() {
			product := impl.GroupMul(a, b)
			if !impl.GroupOk(product) {
				t.Errorf("GroupMul(%d, %d) is %d", a, b, product)
			}
			if product != impl.GroupMul(b, a) {
				t.Errorf("GroupMul(%d, %d) depends on the order", a, b)
			}
			for _, c := range groupPowers() {
				if impl.GroupMul(product, c) != impl.GroupMul(a, impl.GroupMul(b, c)) {
					t.Errorf("GroupMul of %d, %d and %d depends on the grouping", a, b, c)
				}
			}
		}
	}
}

// Section of GroupMul: 0 if one argument or both are not of the group.
func TestGroupMulOfInvalidArgumentsIsZero(t *testing.T) {
	check := func(a, b int) {
		if got := impl.GroupMul(a, b); got != 0 {
			t.Errorf("GroupMul(%d, %d) is %d, not 0", a, b, got)
		}
	}
	for _, bad := range outsideGroup() {
		for _, a := range groupPowers() {
			check(a, bad)
			check(bad, a)
		}
		for _, other := range outsideGroup() {
			check(bad, other)
		}
	}
}

// P13
func TestGroupOfIsThePowerOfTwo(t *testing.T) {
	for n, want := range groupPowers() {
		if got := impl.GroupOf(n); got != want {
			t.Errorf("GroupOf(%d) is %d, not %d", n, got, want)
		}
	}
}

// P13
func TestGroupOfTurnsSumsIntoProducts(t *testing.T) {
	for a := range 23 {
		for b := range 23 {
			if impl.GroupOf(impl.FieldSum(a, b)) != impl.GroupMul(impl.GroupOf(a), impl.GroupOf(b)) {
				t.Errorf("GroupOf of %d plus %d is not the product of both", a, b)
			}
			if (impl.GroupOf(a) == impl.GroupOf(b)) != (a == b) {
				t.Errorf("GroupOf(%d) is %d and GroupOf(%d) is %d", a, impl.GroupOf(a), b, impl.GroupOf(b))
			}
		}
	}
}

// Section of GroupOf: 0 if the exponent is not a field element.
func TestGroupOfAnInvalidExponentIsZero(t *testing.T) {
	for _, n := range outsideField() {
		if got := impl.GroupOf(n); got != 0 {
			t.Errorf("GroupOf(%d) is %d, not 0", n, got)
		}
	}
}

// P14, as values: each power is the product of as many factors.
func TestGroupPowIsTheRepeatedProduct(t *testing.T) {
	for _, a := range groupPowers() {
		want := 1
		for n := range 23 {
			if got := impl.GroupPow(a, n); got != want {
				t.Errorf("GroupPow(%d, %d) is %d, not %d", a, n, got, want)
			}
			want = want * a % 47
		}
	}
}

// P14
func TestGroupPowTurnsSumsIntoProductsAndProductsIntoRepeatedPowers(t *testing.T) {
	for _, a := range groupPowers() {
		for m := range 23 {
			power := impl.GroupPow(a, m)
			for n := range 23 {
				if impl.GroupPow(a, impl.FieldSum(m, n)) != impl.GroupMul(power, impl.GroupPow(a, n)) {
					t.Errorf("GroupPow of %d to %d plus %d is not the product of both", a, m, n)
				}
				if impl.GroupPow(a, impl.FieldMul(m, n)) != impl.GroupPow(power, n) {
					t.Errorf("GroupPow of %d to %d times %d is not the repeated power", a, m, n)
				}
			}
		}
	}
}

// P14
func TestGroupOfIsGroupPowOfTheBase(t *testing.T) {
	check := func(n int) {
		if got, want := impl.GroupOf(n), impl.GroupPow(2, n); got != want {
			t.Errorf("GroupOf(%d) is %d and GroupPow(2, %d) is %d", n, got, n, want)
		}
	}
	for n := range 23 {
		check(n)
	}
	for _, n := range outsideField() {
		check(n)
	}
}

// Section of GroupPow: 0 if the first argument is not of the group, the second is not a field element, or both.
func TestGroupPowOfInvalidArgumentsIsZero(t *testing.T) {
	check := func(a, n int) {
		if got := impl.GroupPow(a, n); got != 0 {
			t.Errorf("GroupPow(%d, %d) is %d, not 0", a, n, got)
		}
	}
	for _, bad := range outsideGroup() {
		for n := range 23 {
			check(bad, n)
		}
		for _, n := range outsideField() {
			check(bad, n)
		}
	}
	for _, a := range groupPowers() {
		for _, n := range outsideField() {
			check(a, n)
		}
	}
}

// P15
func TestGroupPowOfAProductIsTheProductOfBothPowers(t *testing.T) {
	for _, a := range groupPowers() {
		for _, b := range groupPowers() {
			for n := range 23 {
				if impl.GroupPow(impl.GroupMul(a, b), n) != impl.GroupMul(impl.GroupPow(a, n), impl.GroupPow(b, n)) {
					t.Errorf("GroupPow of %d times %d to %d is not the product of both powers", a, b, n)
				}
			}
		}
	}
}

// P16
func TestGroupPowIsInjectiveInTheExponent(t *testing.T) {
	for _, a := range groupPowers() {
		seen := map[int]bool{}
		for n := range 23 {
			seen[impl.GroupPow(a, n)] = true
		}
		want := 23
		if a == 1 {
			want = 1
		}
		if len(seen) != want {
			t.Errorf("%d has %d powers, not %d", a, len(seen), want)
		}
	}
}

// P17
func TestGroupInvIsTheInverse(t *testing.T) {
	for _, a := range groupPowers() {
		inverse := impl.GroupInv(a)
		if impl.GroupMul(a, inverse) != 1 || impl.GroupMul(inverse, a) != 1 {
			t.Errorf("%d times GroupInv(%d) is %d", a, a, impl.GroupMul(a, inverse))
		}
		if impl.GroupInv(inverse) != a {
			t.Errorf("GroupInv of GroupInv(%d) is %d", a, impl.GroupInv(inverse))
		}
		for _, b := range groupPowers() {
			if impl.GroupInv(impl.GroupMul(a, b)) != impl.GroupMul(inverse, impl.GroupInv(b)) {
				t.Errorf("GroupInv of %d times %d is not the product of both", a, b)
			}
		}
	}
}

// P17
func TestGroupInvAtNamedValues(t *testing.T) {
	for _, c := range []struct{ of, want int }{{1, 1}, {2, 24}, {24, 2}, {4, 12}} {
		if got := impl.GroupInv(c.of); got != c.want {
			t.Errorf("GroupInv(%d) is %d, not %d", c.of, got, c.want)
		}
	}
}

// Section of GroupInv: 0 if the argument is not of the group, though some of these have inverses modulo GroupSize.
func TestGroupInvOfAnInvalidArgumentIsZero(t *testing.T) {
	for _, a := range outsideGroup() {
		if got := impl.GroupInv(a); got != 0 {
			t.Errorf("GroupInv(%d) is %d, not 0", a, got)
		}
	}
}

// P18
func TestPowerToTheGreatestExponentTimesTheElementIsOne(t *testing.T) {
	for _, a := range groupPowers() {
		if got := impl.GroupMul(impl.GroupPow(a, 22), a); got != 1 {
			t.Errorf("GroupPow(%d, 22) times %d is %d", a, a, got)
		}
	}
}

// P19
func TestMultiplicationByAGroupElementIsInjective(t *testing.T) {
	for _, a := range groupPowers() {
		seen := map[int]bool{}
		for _, b := range groupPowers() {
			seen[impl.GroupMul(a, b)] = true
		}
		if len(seen) != 23 {
			t.Errorf("%d has only %d products", a, len(seen))
		}
	}
}
