package tests

import (
	"math"
	"testing"

	"loop.example/wardstaff/impl"
)

// outsideField lists numbers that are no field elements: both edges, multiples of the order, and values at which int arithmetic wraps.
func outsideField() []int {
	return []int{
		-1, -2, -22, -23, -24, -46, math.MinInt32, math.MinInt + 1, math.MinInt,
		23, 24, 45, 46, 47, 529, math.MaxInt32, math.MaxInt - 1, math.MaxInt,
	}
}

// inverseOf fails the test if a has no inverse.
func inverseOf(t *testing.T, a int) int {
	t.Helper()
	n, ok := impl.FieldInv(a)
	if !ok {
		t.Fatalf("FieldInv(%d) failed", a)
	}
	return n
}

func TestFieldSizeIs23(t *testing.T) {
	if impl.FieldSize != 23 {
		t.Errorf("FieldSize is %d", impl.FieldSize)
	}
}

// P1
func TestFieldOkIsTrueForExactlyTheElements(t *testing.T) {
	for n := -1000; n <= 1000; n++ {
		if want := n >= 0 && n <= 22; impl.FieldOk(n) != want {
			t.Errorf("FieldOk(%d) is not %v", n, want)
		}
	}
	for _, n := range outsideField() {
		if impl.FieldOk(n) {
			t.Errorf("FieldOk(%d)", n)
		}
	}
}

// P2 to P5, as values: what the general laws leave open.
func TestFieldOperationsAreModular(t *testing.T) {
	for a := range 23 {
		for b := range 23 {
			if got, want := impl.FieldSum(a, b), (a+b)%23; got != want {
				t.Errorf("FieldSum(%d, %d) is %d, not %d", a, b, got, want)
			}
			if got, want := impl.FieldDif(a, b), (a+23-b)%23; got != want {
				t.Errorf("FieldDif(%d, %d) is %d, not %d", a, b, got, want)
			}
			if got, want := impl.FieldMul(a, b), a*b%23; got != want {
				t.Errorf("FieldMul(%d, %d) is %d, not %d", a, b, got, want)
			}
		}
	}
}

func TestFieldOperationsAtNamedValues(t *testing.T) {
	for _, c := range []struct {
		name      string
		got, want int
	}{
		{"FieldMul(6, 4)", impl.FieldMul(6, 4), 1},
		{"FieldMul(22, 22)", impl.FieldMul(22, 22), 1},
		{"FieldSum(22, 1)", impl.FieldSum(22, 1), 0},
		{"FieldSum(22, 22)", impl.FieldSum(22, 22), 21},
		{"FieldSum(0, 22)", impl.FieldSum(0, 22), 22},
		{"FieldDif(0, 1)", impl.FieldDif(0, 1), 22},
		{"FieldDif(0, 22)", impl.FieldDif(0, 22), 1},
		{"FieldDif(22, 22)", impl.FieldDif(22, 22), 0},
		{"FieldDif(22, 0)", impl.FieldDif(22, 0), 22},
	} {
		if c.got != c.want {
			t.Errorf("%s is %d, not %d", c.name, c.got, c.want)
		}
	}
}

// Sections of FieldSum, FieldDif and FieldMul: 0 if one argument or both are no field elements.
func TestFieldOperationsOfInvalidArgumentsAreZero(t *testing.T) {
	for _, operation := range []struct {
		name string
		of   func(int, int) int
	}{
		{"FieldSum", impl.FieldSum},
		{"FieldDif", impl.FieldDif},
		{"FieldMul", impl.FieldMul},
	} {
		check := func(a, b int) {
			if got := operation.of(a, b); got != 0 {
				t.Errorf("%s(%d, %d) is %d, not 0", operation.name, a, b, got)
			}
		}
		for _, bad := range outsideField() {
			for a := range 23 {
				check(a, bad)
				check(bad, a)
			}
			for _, other := range outsideField() {
				check(bad, other)
			}
		}
	}
}

// P2
func TestFieldSumIsACommutativeGroup(t *testing.T) {
	for a := range 23 {
		if impl.FieldSum(a, 0) != a || impl.FieldSum(0, a) != a {
			t.Errorf("0 is no identity for %d", a)
		}
		for b := range 23 {
			if impl.FieldSum(a, b) != impl.FieldSum(b, a) {
				t.Errorf("FieldSum(%d, %d) depends on the order", a, b)
			}
			for c := range 23 {
				if impl.FieldSum(impl.FieldSum(a, b), c) != impl.FieldSum(a, impl.FieldSum(b, c)) {
					t.Errorf("FieldSum of %d, %d and %d depends on the grouping", a, b, c)
				}
			}
		}
	}
}

// P3
func TestFieldDifAndFieldSumReverseEachOther(t *testing.T) {
	for a := range 23 {
		for b := range 23 {
			if impl.FieldDif(impl.FieldSum(a, b), b) != a {
				t.Errorf("%d plus and minus %d is another element", a, b)
			}
			if impl.FieldSum(impl.FieldDif(a, b), b) != a {
				t.Errorf("%d minus and plus %d is another element", a, b)
			}
		}
	}
}

// P4
func TestFieldMulCommutesAssociatesAndDistributes(t *testing.T) {
	for a := range 23 {
		if impl.FieldMul(a, 1) != a || impl.FieldMul(1, a) != a {
			t.Errorf("1 is no identity for %d", a)
		}
		for b := range 23 {
			if impl.FieldMul(a, b) != impl.FieldMul(b, a) {
				t.Errorf("FieldMul(%d, %d) depends on the order", a, b)
			}
			for c := range 23 {
				if impl.FieldMul(impl.FieldMul(a, b), c) != impl.FieldMul(a, impl.FieldMul(b, c)) {
					t.Errorf("FieldMul of %d, %d and %d depends on the grouping", a, b, c)
				}
				if impl.FieldMul(a, impl.FieldSum(b, c)) != impl.FieldSum(impl.FieldMul(a, b), impl.FieldMul(a, c)) {
					t.Errorf("%d does not distribute over %d and %d", a, b, c)
				}
			}
		}
	}
}

// P5
func TestFieldMulIsZeroOnlyForAFactorZero(t *testing.T) {
	for a := range 23 {
		for b := range 23 {
			if want := a == 0 || b == 0; (impl.FieldMul(a, b) == 0) != want {
				t.Errorf("FieldMul(%d, %d) is %d", a, b, impl.FieldMul(a, b))
			}
		}
	}
}

// P6
func TestFieldInvIsTheInverse(t *testing.T) {
	for a := 1; a < 23; a++ {
		inverse := inverseOf(t, a)
		if !impl.FieldOk(inverse) {
			t.Errorf("FieldInv(%d) is %d", a, inverse)
		}
		if impl.FieldMul(a, inverse) != 1 {
			t.Errorf("%d times FieldInv(%d) is %d", a, a, impl.FieldMul(a, inverse))
		}
		if inverseOf(t, inverse) != a {
			t.Errorf("FieldInv of FieldInv(%d) is %d", a, inverseOf(t, inverse))
		}
		for b := 1; b < 23; b++ {
			if inverseOf(t, impl.FieldMul(a, b)) != impl.FieldMul(inverse, inverseOf(t, b)) {
				t.Errorf("FieldInv of %d times %d is not the product of both", a, b)
			}
		}
	}
}

// P6
func TestFieldInvFailsForZeroAndInvalidArguments(t *testing.T) {
	for _, bad := range append(outsideField(), 0) {
		if n, ok := impl.FieldInv(bad); n != 0 || ok {
			t.Errorf("FieldInv(%d) is %d, %v", bad, n, ok)
		}
	}
}

// P7
func TestMultiplicationByANonzeroElementIsInjective(t *testing.T) {
	for a := 1; a < 23; a++ {
		seen := map[int]bool{}
		for b := range 23 {
			seen[impl.FieldMul(a, b)] = true
		}
		if len(seen) != 23 {
			t.Errorf("%d has only %d products", a, len(seen))
		}
	}
}

// P8
func TestSquaresAreEqualOnlyForEqualOrOppositeElements(t *testing.T) {
	for a := range 23 {
		for b := range 23 {
			want := a == b || impl.FieldSum(a, b) == 0
			if (impl.FieldMul(a, a) == impl.FieldMul(b, b)) != want {
				t.Errorf("the squares of %d and %d are %d and %d", a, b, impl.FieldMul(a, a), impl.FieldMul(b, b))
			}
		}
	}
}

// P9
func TestFieldDifIsZeroOnlyForEqualElements(t *testing.T) {
	for a := range 23 {
		for b := range 23 {
			difference := impl.FieldDif(a, b)
			if (difference == 0) != (a == b) {
				t.Errorf("FieldDif(%d, %d) is %d", a, b, difference)
			}
			if impl.FieldDif(b, a) != impl.FieldDif(0, difference) || impl.FieldSum(difference, impl.FieldDif(b, a)) != 0 {
				t.Errorf("FieldDif(%d, %d) is not the negative of FieldDif(%d, %d)", b, a, a, b)
			}
		}
	}
}

// P10
func TestFieldInvIsInjective(t *testing.T) {
	from := map[int]int{}
	for a := 1; a < 23; a++ {
		inverse := inverseOf(t, a)
		if other, found := from[inverse]; found {
			t.Errorf("%d is the inverse of %d and of %d", inverse, other, a)
		}
		from[inverse] = a
	}
}

// P10
func TestOneAndMinusOneAreTheirOwnInverses(t *testing.T) {
	if inverseOf(t, 1) != 1 {
		t.Errorf("FieldInv(1) is %d", inverseOf(t, 1))
	}
	if inverseOf(t, 22) != 22 {
		t.Errorf("FieldInv(22) is %d", inverseOf(t, 22))
	}
}
