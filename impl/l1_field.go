// Package impl makes keys that nobody holds and signs with them; each file is one layer.
package impl

// FieldSize is the order of the field, a prime.
const FieldSize = 23

// element is a field element. Its methods take it to be in range, so numbers from outside pass FieldOk first.
type element int

func (a element) plus(b element) element {
	return (a + b) % FieldSize
}

// minus adds FieldSize first, as the remainder of a negative number would be negative.
func (a element) minus(b element) element {
	return (a + FieldSize - b) % FieldSize
}

func (a element) times(b element) element {
	return (a * b) % FieldSize
}

// inverse runs the extended Euclidean algorithm on FieldSize and a.
// In each round, rest and nextRest are congruent to a times their factors; rest ends as 1, since FieldSize is prime.
func (a element) inverse() (element, bool) {
	if a == 0 {
		return 0, false
	}
	rest, nextRest := FieldSize, int(a)
	factor, nextFactor := 0, 1
	for nextRest != 0 {
		quotient := rest / nextRest
		rest, nextRest = nextRest, rest-quotient*nextRest
		factor, nextFactor = nextFactor, factor-quotient*nextFactor
	}
	if factor < 0 {
		factor += FieldSize
	}
	return element(factor), true
}

// FieldOk reports whether n is a field element.
func FieldOk(n int) bool {
	return 0 <= n && n < FieldSize
}

// FieldSum returns the sum, or 0 if a or b is not a field element.
func FieldSum(a int, b int) int {
	if !FieldOk(a) || !FieldOk(b) {
		return 0
	}
	return int(element(a).plus(element(b)))
}

// FieldDif returns a minus b, or 0 if a or b is not a field element.
func FieldDif(a int, b int) int {
	if !FieldOk(a) || !FieldOk(b) {
		return 0
	}
	return int(element(a).minus(element(b)))
}

// FieldMul returns the product, or 0 if a or b is not a field element.
func FieldMul(a int, b int) int {
	if !FieldOk(a) || !FieldOk(b) {
		return 0
	}
	return int(element(a).times(element(b)))
}

// FieldInv returns the multiplicative inverse and true, or 0 and false if a is 0 or not a field element.
func FieldInv(a int) (int, bool) {
	if !FieldOk(a) {
		return 0, false
	}
	inverse, ok := element(a).inverse()
	return int(inverse), ok
}
