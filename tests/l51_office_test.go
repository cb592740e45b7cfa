package tests

import (
	"fmt"
	"math"
	"slices"
	"sync"
	"testing"

	"loop.example/wardstaff/impl"
)

// threePeople is the policy of most offices here: one "a" may approve up to 10, two "a" up to 50, and one "b" up to 99.
func threePeople() policy {
	return policy{rolesIn("aab"), []impl.Rule{{Role: "a", Many: 1, Most: 10}, {Role: "a", Many: 2, Most: 50}, {Role: "b", Many: 1, Most: 99}}}
}

// officeBy is an office with the policy, made without the program, as are the other offices that the tests give.
func officeBy(k heldKey, p policy, cases ...impl.Case) impl.Office {
	return impl.Office{Key: k.key, Held: k.held, Roles: p.roles, Rules: p.rules, Cases: cases}
}

// officeOf is an office by threePeople.
func officeOf(k heldKey, cases ...impl.Case) impl.Office {
	return officeBy(k, threePeople(), cases...)
}

// request is a case that is not signed.
func request(msg, amount int, who ...int) impl.Case {
	return impl.Case{Msg: msg, Amount: amount, For: who}
}

// signedRequest is a case that is signed by the secret and nonce.
func signedRequest(k heldKey, drawn, msg, amount int, who ...int) impl.Case {
	c := request(msg, amount, who...)
	c.On, c.Sig = true, aloneBy(k.secret, msg, drawn)
	return c
}

// withCase returns the office with another case at the index.
func withCase(o impl.Office, index int, c impl.Case) impl.Office {
	o.Cases = slices.Clone(o.Cases)
	o.Cases[index] = c
	return o
}

// plusCase returns the office with the case behind the others.
func plusCase(o impl.Office, c impl.Case) impl.Office {
	o.Cases = slices.Concat(o.Cases, []impl.Case{c})
	return o
}

// sixCases lists as many cases as there can be, without and with approvers, signed and not.
func sixCases(k heldKey) []impl.Case {
	return []impl.Case{
		request(7, 10, 1), signedRequest(k, 0, 99, 99, 3), request(0, 0), signedRequest(k, 22, 50, 50, 2, 1), request(98, 99, 3, 1, 2), signedRequest(k, 5, 23, 0, 1),
	}
}

// caseLists lists no cases, each of the six alone, and several of them.
func caseLists(k heldKey) [][]impl.Case {
	six := sixCases(k)
	list := [][]impl.Case{nil, {}, six, slices.Concat(six[3:], six[:3]), six[1:], six[:5], {six[5], six[4]}, {six[2], six[0], six[4]}, {six[1], six[3]}}
	for _, c := range six {
		list = append(list, []impl.Case{c})
	}
	return list
}

// officeKeys lists a key of every committee, and other ones of a few, of the secret 0 too.
func officeKeys() []heldKey {
	var list []heldKey
	for _, c := range crews() {
		list = append(list, heldKeyOf(c, upTo(c.many), []int{19, 4, 7, 13, 1}[:c.need]))
	}
	for _, c := range []crew{{1, 1}, {2, 3}, {5, 5}} {
		for _, k := range refreshables(c) {
			list = append(list, k.heldKey)
		}
	}
	return list
}

// keyOf2Of3 is the key of the tests that need only one.
func keyOf2Of3() heldKey {
	return heldKeyOf(crew{2, 3}, upTo(3), []int{5, 7})
}

// offices lists offices by every key with all lists of cases.
func offices() []impl.Office {
	var list []impl.Office
	for _, k := range officeKeys() {
		for _, cases := range caseLists(k) {
			list = append(list, officeOf(k, cases...))
		}
	}
	return list
}

// fewOffices lists offices of one committee with all lists of cases, with right and with wrong shares.
func fewOffices() []impl.Office {
	k := keyOf2Of3()
	var list []impl.Office
	for i, cases := range caseLists(k) {
		o := officeOf(k, cases...)
		list = append(list, o)
		o.Held = heldWith(o.Held, i%3, (o.Held[i%3].Share+1+i)%23)
		list = append(list, o)
	}
	return list
}

// someIndexes lists indexes of cases, and what is none in an office, at the ends of int too.
func someIndexes() []int {
	return []int{0, 1, 2, 3, 4, 5, 6, 7, -1, -2, -6, 100, 256, math.MinInt, math.MinInt + 1, math.MaxInt - 1, math.MaxInt, math.MinInt32, math.MaxInt32, 1 << 32, -1 << 32}
}

func sameCase(a, b impl.Case) bool {
	return a.Msg == b.Msg && a.Amount == b.Amount && slices.Equal(a.For, b.For) && a.On == b.On && a.Sig == b.Sig
}

func sameOffice(a, b impl.Office) bool {
	return sameKey(a.Key, b.Key) && slices.Equal(a.Held, b.Held) && slices.Equal(a.Roles, b.Roles) && slices.Equal(a.Rules, b.Rules) && slices.EqualFunc(a.Cases, b.Cases, sameCase)
}

func isCase(o impl.Office, at int) bool {
	return at >= 0 && at < len(o.Cases)
}

func hasMessage(o impl.Office, msg int) bool {
	return slices.ContainsFunc(o.Cases, func(c impl.Case) bool { return c.Msg == msg })
}

func checkOfficeOk(t *testing.T, o impl.Office, want bool) {
	t.Helper()
	if impl.OfficeOk(o) != want {
		t.Errorf("OfficeOk(%+v) is not %v", o, want)
	}
}

// checkOfficeNew fails the test if there is no office of these, or it has anything else.
func checkOfficeNew(t *testing.T, k impl.Key, held []impl.Held, p policy) {
	t.Helper()
	o, ok := impl.OfficeNew(k, held, p.roles, p.rules)
	if want := officeBy(heldKey{key: k, held: held}, p); !ok || !sameOffice(o, want) {
		t.Errorf("OfficeNew(%v, %v, %q, %v) is %+v, %v", k, held, p.roles, p.rules, o, ok)
	}
	checkOfficeOk(t, o, true)
}

func checkNoOffice(t *testing.T, k impl.Key, held []impl.Held, p policy) {
	t.Helper()
	if o, ok := impl.OfficeNew(k, held, p.roles, p.rules); ok || !sameOffice(o, impl.Office{}) {
		t.Errorf("OfficeNew(%v, %v, %q, %v) is %+v, %v", k, held, p.roles, p.rules, o, ok)
	}
}

// asked fails the test if the last case is not the new one, or anything else is changed.
func asked(t *testing.T, o impl.Office, msg, amount int) impl.Office {
	t.Helper()
	next, ok := impl.OfficeAsk(o, msg, amount)
	if want := plusCase(o, request(msg, amount)); !ok || !sameOffice(next, want) {
		t.Fatalf("OfficeAsk(%+v, %d, %d) is %+v, %v", o, msg, amount, next, ok)
	}
	return next
}

// checkNotAsked fails the test if OfficeAsk does not return the office itself and false.
func checkNotAsked(t *testing.T, o impl.Office, msg, amount int) {
	t.Helper()
	if next, ok := impl.OfficeAsk(o, msg, amount); ok || !sameOffice(next, o) {
		t.Errorf("OfficeAsk(%+v, %d, %d) is %+v, %v", o, msg, amount, next, ok)
	}
}

// checkNothingAsked fails the test if OfficeAsk does not return the zero value and false.
func checkNothingAsked(t *testing.T, o impl.Office, msg, amount int) {
	t.Helper()
	if next, ok := impl.OfficeAsk(o, msg, amount); ok || !sameOffice(next, impl.Office{}) {
		t.Errorf("OfficeAsk(%+v, %d, %d) is %+v, %v", o, msg, amount, next, ok)
	}
}

// approved fails the test if the person is not the last approver of the case, or anything else is changed.
func approved(t *testing.T, o impl.Office, at, who int) impl.Office {
	t.Helper()
	next, ok := impl.OfficeVote(o, at, who)
	c := o.Cases[at]
	c.For = slices.Concat(c.For, []int{who})
	if want := withCase(o, at, c); !ok || !sameOffice(next, want) {
		t.Fatalf("OfficeVote(%+v, %d, %d) is %+v, %v", o, at, who, next, ok)
	}
	return next
}

// checkNotApproved fails the test if OfficeVote does not return the office itself and false.
func checkNotApproved(t *testing.T, o impl.Office, at, who int) {
	t.Helper()
	if next, ok := impl.OfficeVote(o, at, who); ok || !sameOffice(next, o) {
		t.Errorf("OfficeVote(%+v, %d, %d) is %+v, %v", o, at, who, next, ok)
	}
}

// checkNothingApproved fails the test if OfficeVote does not return the zero value and false.
func checkNothingApproved(t *testing.T, o impl.Office, at, who int) {
	t.Helper()
	if next, ok := impl.OfficeVote(o, at, who); ok || !sameOffice(next, impl.Office{}) {
		t.Errorf("OfficeVote(%+v, %d, %d) is %+v, %v", o, at, who, next, ok)
	}
}

// signedWith fails the test if the case is not signed with the signature by members of whom nobody is reported, or anything else is changed.
func signedWith(t *testing.T, o impl.Office, at int, members, drawn []int, sig impl.Sig) impl.Office {
	t.Helper()
	next, bad, ok := impl.OfficeSign(o, at, members, drawn)
	c := o.Cases[at]
	c.On, c.Sig = true, sig
	if want := withCase(o, at, c); !ok || len(bad) > 0 || !sameOffice(next, want) {
		t.Fatalf("OfficeSign(%+v, %d, %v, %v) is %+v, %v, %v, not %+v", o, at, members, drawn, next, bad, ok, want)
	}
	checkSigOk(t, impl.KeyPub(o.Key), c.Msg, next.Cases[at].Sig, true)
	checkOfficeOk(t, next, true)
	return next
}

// checkReported fails the test if OfficeSign does not return the office itself, the members and false.
func checkReported(t *testing.T, o impl.Office, at int, members, drawn []int, want ...int) {
	t.Helper()
	if next, bad, ok := impl.OfficeSign(o, at, members, drawn); ok || !slices.Equal(bad, want) || !sameOffice(next, o) {
		t.Errorf("OfficeSign(%+v, %d, %v, %v) is %+v, %v, %v, not %v", o, at, members, drawn, next, bad, ok, want)
	}
}

// checkNotSigned fails the test if OfficeSign does not return the office itself, nobody and false.
func checkNotSigned(t *testing.T, o impl.Office, at int, members, drawn []int) {
	t.Helper()
	checkReported(t, o, at, members, drawn)
}

// checkNothingSigned fails the test if OfficeSign does not return zero values and false.
func checkNothingSigned(t *testing.T, o impl.Office, at int, members, drawn []int) {
	t.Helper()
	if next, bad, ok := impl.OfficeSign(o, at, members, drawn); ok || len(bad) > 0 || !sameOffice(next, impl.Office{}) {
		t.Errorf("OfficeSign(%+v, %d, %v, %v) is %+v, %v, %v", o, at, members, drawn, next, bad, ok)
	}
}

// checkInvalidOffice fails the test if a function takes the office to be valid, whatever else it is given.
func checkInvalidOffice(t *testing.T, o impl.Office) {
	t.Helper()
	checkOfficeOk(t, o, false)
	for _, msg := range []int{0, 7, 42, 100, math.MinInt} {
		checkNothingAsked(t, o, msg, 10)
	}
	checkNothingAsked(t, o, 42, 100)
	for _, at := range []int{0, 2, 6, -1, math.MaxInt} {
		checkNothingApproved(t, o, at, 2)
		checkNothingSigned(t, o, at, []int{1, 2}, []int{3, 4})
		checkNothingSigned(t, o, at, upTo(o.Key.Many%10), []int{3, 4, 0, 22, 11})
	}
	checkNothingApproved(t, o, 0, 0)
	checkNothingApproved(t, o, 0, math.MinInt)
	checkNothingSigned(t, o, 0, nil, nil)
	checkNothingSigned(t, o, 0, []int{math.MinInt}, []int{math.MaxInt})
}

// P142: every valid key, with shares right and wrong, and every policy.
func TestOfficeNewHasTheKeyTheSharesAndThePolicy(t *testing.T) {
	for i, c := range crews() {
		for _, k := range validKeys(c) {
			for _, shares := range [][]int{{0, 0, 0, 0, 0}, {22, 22, 22, 22, 22}, {1 + i, 2, 3, 4, 5}, {7, 0, 22, 13, i}} {
				checkOfficeNew(t, k, heldBy(upTo(c.many), shares), threePeople())
			}
		}
	}
	k := keyOf2Of3()
	for _, p := range policies() {
		checkOfficeNew(t, k.key, k.held, p)
	}
	checkOfficeNew(t, k.key, k.held, policy{nil, nil})
	checkOfficeNew(t, k.key, k.held, policy{[]string{}, []impl.Rule{}})
}

// wrongHeld lists what is not a share for each member in order: one missing, too many, not in order, twice, or no field element, at each index.
func wrongHeld(k heldKey) [][]impl.Held {
	many := k.key.Many
	list := [][]impl.Held{nil, {}, append(slices.Clone(k.held), impl.Held{Member: many + 1, Share: 5}), slices.Repeat(k.held, 2), slices.Repeat(k.held, 100)}
	list = append(list, append([]impl.Held{{Member: 0, Share: 5}}, k.held...), append(slices.Clone(k.held), impl.Held{}))
	for i, h := range k.held {
		list = append(list, heldWithout(k.held, i), slices.Insert(slices.Clone(k.held), i, h), append(slices.Clone(k.held), h))
		for _, bad := range outsideField() {
			list = append(list, heldWith(k.held, i, bad))
		}
		for _, bad := range outsideMembersOf(crew{k.key.Need, many}) {
			changed := slices.Clone(k.held)
			changed[i].Member = bad
			list = append(list, changed)
		}
		for j := range i {
			swapped, twice := slices.Clone(k.held), slices.Clone(k.held)
			swapped[i], swapped[j] = swapped[j], swapped[i]
			twice[i] = twice[j]
			list = append(list, swapped, twice)
		}
	}
	return list
}

// P142 and P151: what is not a share for each member, and lists that are no share lists.
func TestAnOfficeIsInvalidWithoutAShareOfEachMember(t *testing.T) {
	for _, k := range officeKeys() {
		for _, held := range wrongHeld(k) {
			checkNoOffice(t, k.key, held, threePeople())
			o := officeOf(k, sixCases(k)...)
			o.Held = held
			checkOfficeOk(t, o, false)
		}
		for _, held := range outsideHeld() {
			checkNoOffice(t, k.key, held, threePeople())
		}
	}
	k := keyOf2Of3()
	for _, held := range append(wrongHeld(k), outsideHeld()...) {
		o := officeOf(k, sixCases(k)...)
		o.Held = held
		checkInvalidOffice(t, o)
	}
}

// Section of OfficeOk: each list of up to three members near the range.
func TestOfficeOkIsTrueForExactlyTheSharesOfAllMembersInOrder(t *testing.T) {
	for _, c := range crews() {
		k := heldKeyOf(c, nil, polynomialOf(c))
		for length := range 4 {
			for _, members := range tuples([]int{0, 1, 2, 3, 4, 5, 6}, length) {
				k.held = heldBy(members, []int{0, 22, 9})
				checkOfficeOk(t, officeOf(k, request(7, 7)), slices.Equal(members, upTo(c.many)))
			}
		}
	}
}

// P142: keys that are not valid, with shares for as many members as there might be.
func TestAnOfficeIsInvalidWithAnInvalidKey(t *testing.T) {
	for _, c := range crews() {
		for _, bad := range invalidKeys(c) {
			for _, many := range []int{0, c.many, 5, 6} {
				checkNoOffice(t, bad, heldBy(upTo(many), []int{1, 2, 3, 4, 5, 6}), threePeople())
			}
		}
	}
	k := keyOf2Of3()
	for _, bad := range invalidKeys(crew{2, 3}) {
		o := officeOf(k, sixCases(k)...)
		o.Key = bad
		checkInvalidOffice(t, o)
	}
	checkInvalidOffice(t, impl.Office{})
	checkNoOffice(t, impl.Key{}, nil, policy{})
	for _, far := range []int{math.MinInt, math.MaxInt} {
		checkNoOffice(t, impl.Key{Need: far, Many: far, Good: []int{far}, Commit: []int{far}}, []impl.Held{{Member: far, Share: far}}, threePeople())
	}
}

// P142: policies that are not valid, also where no case has approvers.
func TestAnOfficeIsInvalidWithAnInvalidPolicy(t *testing.T) {
	k := keyOf2Of3()
	for i, p := range outsidePolicies() {
		checkNoOffice(t, k.key, k.held, p)
		checkOfficeOk(t, officeBy(k, p, request(7, 0)), false)
		if i%7 == 0 {
			checkInvalidOffice(t, officeBy(k, p))
		}
	}
}

// Section of OfficeOk: all lists of cases by every key, and shares that are wrong.
func TestOfficeOkAllowsAnyCasesAndShares(t *testing.T) {
	for _, o := range append(offices(), fewOffices()...) {
		checkOfficeOk(t, o, true)
	}
	k := keyOf2Of3()
	for _, shares := range tuples([]int{0, 1, 22}, 3) {
		o := officeOf(k, sixCases(k)...)
		o.Held = heldBy(upTo(3), shares)
		checkOfficeOk(t, o, true)
	}
}

// Section of OfficeOk: each message and amount near the range, signed and not.
func TestOfficeOkIsTrueForExactlyTheMessagesAndAmounts(t *testing.T) {
	k := keyOf2Of3()
	for n := -20; n <= 120; n++ {
		valid := n >= 0 && n <= 99
		checkOfficeOk(t, officeOf(k, request(n, 7)), valid)
		checkOfficeOk(t, officeOf(k, request(7, n)), valid)
		checkOfficeOk(t, officeOf(k, signedRequest(k, 4, 7, n, 3)), valid)
		if valid {
			checkOfficeOk(t, officeOf(k, signedRequest(k, 4, n, 99, 3)), true)
		}
	}
}

// Section of OfficeOk: messages and amounts outside, at each index, signed and not.
func TestAnOfficeIsInvalidWithACaseOutOfRange(t *testing.T) {
	k := keyOf2Of3()
	o := officeOf(k, sixCases(k)...)
	for i, c := range o.Cases {
		for _, bad := range outsideMessages() {
			other := c
			other.Msg = bad
			checkInvalidOffice(t, withCase(o, i, other))
			checkInvalidOffice(t, officeOf(k, other))
		}
		for _, bad := range outsideAmounts() {
			other := c
			other.Amount = bad
			checkInvalidOffice(t, withCase(o, i, other))
			checkInvalidOffice(t, officeOf(k, other))
		}
	}
}

// Section of OfficeOk: every list of up to four numbers near the people, of a case that is not signed.
func TestOfficeOkIsTrueForExactlyTheDifferentPeople(t *testing.T) {
	k := keyOf2Of3()
	for _, word := range []string{"", "a", "ab", "aab", "cccc", "abcabc"} {
		p := policy{rolesIn(word), threePeople().rules}
		for _, who := range approverLists(4) {
			valid := true
			for i, person := range who {
				valid = valid && person >= 1 && person <= len(word) && !slices.Contains(who[:i], person)
			}
			checkOfficeOk(t, officeBy(k, p, request(7, 99, who...)), valid)
		}
	}
}

// Section of OfficeOk: an approver twice, at each place, and approvers that are nobody, at each place, in each case.
func TestAnOfficeIsInvalidWithWrongApprovers(t *testing.T) {
	k := keyOf2Of3()
	o := officeOf(k, sixCases(k)...)
	for i, c := range o.Cases {
		for j := range len(c.For) + 1 {
			for _, wrong := range append(noPeople(3), c.For...) {
				other := c
				other.For = slices.Insert(slices.Clone(c.For), j, wrong)
				checkInvalidOffice(t, withCase(o, i, other))
			}
		}
		if len(c.For) > 0 {
			c.For = slices.Repeat(c.For, 1000)
			checkInvalidOffice(t, withCase(o, i, c))
		}
	}
	everybody := officeBy(k, policy{rolesIn("abcabc"), nil}, request(7, 7, 6, 5, 4, 3, 2, 1))
	checkOfficeOk(t, everybody, true)
	everybody.Roles = everybody.Roles[:5]
	checkInvalidOffice(t, everybody)
}

// P151: each case repeated at each place, as it is, and another case of its message.
func TestAnOfficeIsInvalidWithACaseRepeated(t *testing.T) {
	for _, o := range append(offices(), fewOffices()...) {
		for i, c := range o.Cases {
			for j := range len(o.Cases) + 1 {
				for _, twin := range []impl.Case{c, request(c.Msg, 5, 2)} {
					repeated := o
					repeated.Cases = slices.Insert(slices.Clone(o.Cases), j, twin)
					checkOfficeOk(t, repeated, false)
					if j != i && j < len(o.Cases) {
						checkOfficeOk(t, withCase(o, j, twin), false)
					}
				}
			}
		}
	}
	for _, o := range fewOffices() {
		for _, c := range o.Cases {
			checkInvalidOffice(t, plusCase(o, c))
			checkInvalidOffice(t, plusCase(o, request(c.Msg, 5)))
		}
	}
}

// Section of OfficeOk: every list of up to four messages of three, and of five and six in every order with one of them repeated.
func TestOfficeOkIsTrueForExactlyTheDifferentMessages(t *testing.T) {
	k := keyOf2Of3()
	check := func(messages []int) {
		o := officeOf(k)
		different := map[int]bool{}
		for _, msg := range messages {
			o = plusCase(o, request(msg, 7))
			different[msg] = true
		}
		checkOfficeOk(t, o, len(different) == len(messages))
	}
	for length := range 5 {
		for _, messages := range tuples([]int{0, 1, 99}, length) {
			check(messages)
		}
	}
	for _, messages := range arrangements([]int{0, 1, 23, 50, 98, 99}, 6) {
		check(messages)
		check(messages[:5])
		for i := range messages[1:] {
			check(with(messages, i, messages[5]))
		}
	}
}

// Section of OfficeOk: as many different cases as there can be, and more.
func TestAnOfficeIsInvalidWithTooManyCases(t *testing.T) {
	for _, k := range officeKeys() {
		six := officeOf(k, sixCases(k)...)
		checkOfficeOk(t, six, true)
		checkInvalidOffice(t, plusCase(six, request(42, 7)))
		checkInvalidOffice(t, plusCase(six, signedRequest(k, 7, 42, 50, 3)))
	}
	k := keyOf2Of3()
	many := officeOf(k)
	for msg := range 100 {
		many = plusCase(many, request(msg, 7))
		checkOfficeOk(t, many, msg < 6)
	}
	many.Cases = slices.Repeat(many.Cases, 100)
	checkInvalidOffice(t, many)
}

// P151: a signature of every message on a case of every message, which is right if and only if the message has the same challenge.
func TestAnOfficeIsInvalidWithASignatureOfAnotherMessage(t *testing.T) {
	for i, k := range officeKeys() {
		for msg := range 100 {
			for other := range 100 {
				c := signedRequest(k, (i+msg)%23, other, 50, 3)
				c.Msg = msg
				valid := k.secret == 0 || (msg-other)%23 == 0
				if (i+msg+other)%7 == 0 {
					checkOfficeOk(t, officeOf(k, c), valid)
				}
			}
		}
	}
	k := keyOf2Of3()
	six := officeOf(k, sixCases(k)...)
	for i, c := range six.Cases {
		for _, d := range six.Cases {
			if c.On && d.On && (c.Msg-d.Msg)%23 != 0 {
				c.Sig = d.Sig
				checkInvalidOffice(t, withCase(six, i, c))
			}
		}
	}
}

// Section of OfficeOk: every pair of numbers near the group and the field as the signature.
func TestOfficeOkIsTrueForExactlyTheSignatures(t *testing.T) {
	k := keyOf2Of3()
	for r := -2; r <= 49; r++ {
		for z := -2; z <= 25; z++ {
			c := request(9, 50, 3)
			c.On, c.Sig = true, impl.Sig{R: r, Z: z}
			valid := exponentOf(r) >= 0 && z >= 0 && z < 23 && aloneBy(k.secret, 9, max(exponentOf(r), 0)).Z == z
			checkOfficeOk(t, officeOf(k, c), valid)
			c.On = false
			checkOfficeOk(t, officeOf(k, c), r == 0 && z == 0)
		}
	}
}

// Section of OfficeOk: signatures that are none, and a signature on a case that is not signed, at each index.
func TestAnOfficeIsInvalidWithAWrongSignature(t *testing.T) {
	k := keyOf2Of3()
	six := officeOf(k, sixCases(k)...)
	for i, c := range six.Cases {
		right := aloneBy(k.secret, c.Msg, 4)
		wrong := []impl.Sig{{R: right.R, Z: right.Z + 23}, {R: right.R, Z: right.Z - 23}, {R: right.R + 47, Z: right.Z}, {R: right.R, Z: (right.Z + 1) % 23}, {Z: right.Z}, {R: math.MinInt, Z: math.MaxInt}}
		if c.On {
			wrong = append(wrong, impl.Sig{}, aloneBy(k.secret+1, c.Msg, 4))
		} else {
			wrong = append(wrong, right)
		}
		for _, sig := range wrong {
			c.Sig = sig
			checkInvalidOffice(t, withCase(six, i, c))
		}
	}
	other := heldKeyOf(crew{2, 3}, upTo(3), []int{9, 1})
	checkInvalidOffice(t, officeOf(k, sixCases(other)...))
}

// approverCases calls the function for policies and approvers who exist, with the most that they permit.
func approverCases(function func(p policy, who []int, most int)) {
	rules := append(fourRules(), nil, threePeople().rules, someRules()[:1])
	for _, roles := range fewRoleLists() {
		for _, r := range rules {
			for _, who := range approverSets() {
				if len(who) == 0 || slices.Max(who) <= len(roles) {
					function(policy{roles, r}, who, permitted(roles, r, who))
				}
			}
		}
	}
}

// Section of OfficeOk: a signed case of exactly the greatest amount that the approvers permit, and of one more, and one that is not signed of any.
func TestAnOfficeIsInvalidWithASignatureThatThePolicyForbids(t *testing.T) {
	k := keyOf2Of3()
	approverCases(func(p policy, who []int, most int) {
		for _, amount := range amountsAround(p.rules) {
			checkOfficeOk(t, officeBy(k, p, signedRequest(k, 7, 9, amount, who...)), amount <= most)
			checkOfficeOk(t, officeBy(k, p, request(9, amount, who...)), true)
		}
	})
	six := officeOf(k, sixCases(k)...)
	for i, c := range six.Cases {
		if c.On {
			c.For = nil
			checkInvalidOffice(t, withCase(six, i, c))
			c.Amount = 0
			checkInvalidOffice(t, withCase(six, i, c))
		}
	}
	checkInvalidOffice(t, officeOf(k, signedRequest(k, 7, 9, 11, 2)))
	checkInvalidOffice(t, officeOf(k, signedRequest(k, 7, 9, 51, 2, 1)))
}

// P143: every message, with amounts of all kinds, for all lists of cases.
func TestOfficeAskAppendsACase(t *testing.T) {
	for i, o := range append(offices(), fewOffices()...) {
		for msg := range 100 {
			amount := (37*i + 11*msg) % 100
			if hasMessage(o, msg) || len(o.Cases) == 6 {
				checkNotAsked(t, o, msg, amount)
				continue
			}
			next := asked(t, o, msg, amount)
			if last := next.Cases[len(next.Cases)-1]; last.On || len(last.For) > 0 || last.Sig != (impl.Sig{}) {
				t.Errorf("the new case is %+v", last)
			}
			if msg%10 == 0 {
				checkOfficeOk(t, next, true)
				checkNotAsked(t, next, msg, amount)
				checkNotAsked(t, next, msg, 99-amount)
			}
		}
	}
}

// P143: every message and amount.
func TestOfficeAskOfEveryMessageAndAmount(t *testing.T) {
	for msg := range 100 {
		for amount := range 100 {
			o := asked(t, officeOf(keyOf2Of3()), msg, amount)
			checkNotAsked(t, o, msg, amount)
		}
	}
}

// Section of OfficeAsk: a message or an amount out of range gives the zero value, also where nothing could be asked anyway.
func TestOfficeAskOutOfRangeFails(t *testing.T) {
	for _, o := range fewOffices() {
		for _, bad := range outsideMessages() {
			for _, amount := range []int{0, 10, 99, -1, 100, math.MaxInt} {
				checkNothingAsked(t, o, bad, amount)
			}
		}
		for _, bad := range outsideAmounts() {
			for _, msg := range []int{0, 7, 42, 99, 100, math.MinInt} {
				checkNothingAsked(t, o, msg, bad)
			}
		}
	}
}

// P153: more messages than there is space for, in several orders, from offices of every number of cases.
func TestAskingForMoreThanThereIsSpaceFillsTheOffice(t *testing.T) {
	for i, first := range offices() {
		o := first
		for n := range 100 {
			msg := (n*[]int{1, 3, 7, 99}[i%4] + i) % 100
			if next, ok := impl.OfficeAsk(o, msg, 10); ok {
				o = next
			}
		}
		if len(o.Cases) != 6 {
			t.Errorf("there are %d cases after asking %+v", len(o.Cases), first)
		}
		checkOfficeOk(t, o, true)
		for msg := range 100 {
			checkNotAsked(t, o, msg, 0)
		}
	}
}

// P144 and P145: every case and person, and none, for all lists of cases.
func TestOfficeVoteMakesThePersonTheLastApprover(t *testing.T) {
	for _, o := range offices() {
		for at := -1; at <= 6; at++ {
			for who := range 6 {
				possible := isCase(o, at) && !o.Cases[at].On && who >= 1 && who <= 3 && !slices.Contains(o.Cases[at].For, who)
				if !possible {
					checkNotApproved(t, o, at, who)
					continue
				}
				next := approved(t, o, at, who)
				checkOfficeOk(t, next, true)
				checkNotApproved(t, next, at, who)
			}
		}
	}
}

// P145: cases and people that there are not, far ones too, and people of every number.
func TestOfficeVoteByNobodyOrForNothingFails(t *testing.T) {
	for _, o := range fewOffices() {
		for _, at := range someIndexes() {
			for _, nobody := range noPeople(3) {
				checkNotApproved(t, o, at, nobody)
			}
			if !isCase(o, at) {
				checkNotApproved(t, o, at, 1)
				checkNotApproved(t, o, at, 3)
			}
		}
	}
	for _, roles := range fewRoleLists() {
		o := officeBy(keyOf2Of3(), policy{roles, nil}, request(7, 7))
		for who := 1; who <= 7; who++ {
			if who > len(roles) {
				checkNotApproved(t, o, 0, who)
			} else {
				o = approved(t, o, 0, who)
			}
		}
	}
}

// P144: all people in every order, who approve one case after the other.
func TestApproversKeepTheirOrder(t *testing.T) {
	k := keyOf2Of3()
	for length := range 4 {
		for _, who := range arrangements(upTo(3), length) {
			o := officeOf(k, request(1, 99), request(2, 0), signedRequest(k, 3, 3, 9, 1))
			for _, person := range who {
				for _, at := range []int{1, 0} {
					o = approved(t, o, at, person)
					checkNotApproved(t, o, at, person)
				}
				checkNotApproved(t, o, 2, person)
			}
			if want := officeOf(k, request(1, 99, who...), request(2, 0, who...), signedRequest(k, 3, 3, 9, 1)); !sameOffice(o, want) {
				t.Errorf("after %v, the office is %+v", who, o)
			}
		}
	}
}

// P152: every two people, also where one of them approves already, both are the same or one is nobody, for every case.
func TestTheOrderOfTwoApproversDoesNotMatter(t *testing.T) {
	both := func(o impl.Office, at, first, second int) impl.Office {
		o, _ = impl.OfficeVote(o, at, first)
		o, _ = impl.OfficeVote(o, at, second)
		return o
	}
	for _, o := range fewOffices() {
		for at, c := range o.Cases {
			for first := range 5 {
				for second := range 5 {
					one, other := both(o, at, first, second), both(o, at, second, first)
					most := impl.PolicyMost(o.Roles, o.Rules, one.Cases[at].For)
					if most != impl.PolicyMost(o.Roles, o.Rules, other.Cases[at].For) {
						t.Errorf("%d and %d are not as %d and %d for case %d of %+v", first, second, second, first, at, o)
					}
					if !c.On && most != permitted(o.Roles, o.Rules, append([]int{first, second}, c.For...)) {
						t.Errorf("%d and %d permit %d for case %d of %+v", first, second, most, at, o)
					}
				}
			}
		}
	}
}

// wrongAmong returns the shares of which those of the members are wrong, by different numbers.
func wrongAmong(held []impl.Held, members []int) []impl.Held {
	for _, member := range members {
		held = heldWith(held, member-1, (held[member-1].Share+1+4*member)%23)
	}
	return held
}

// among lists those of the members who are in the other list.
func among(members, others []int) []int {
	return slices.DeleteFunc(slices.Clone(members), func(member int) bool { return !slices.Contains(others, member) })
}

// eachMeeting calls the function for meetings of every list of signers by each key, of messages with the challenge 0 and another one.
func eachMeeting(function func(m meeting)) {
	for i, k := range officeKeys() {
		c := crew{k.key.Need, k.key.Many}
		for j, members := range signerLists(c) {
			m := meetingOf(k, 0, members, nonceLists()[(i+j)%4])
			for _, challenge := range []int{0, 1 + (i*j)%22} {
				m.msg = messageWith(m.r(), power(k.secret), challenge)
				function(m)
			}
		}
	}
}

// P146 and P149: every list of signers by each key, for a case at each end of an office, where the members who do not sign have right shares or wrong ones.
func TestOfficeSignSignsAPermittedCase(t *testing.T) {
	eachMeeting(func(m meeting) {
		idle := slices.DeleteFunc(upTo(m.key.Many), func(member int) bool { return slices.Contains(m.members, member) })
		for _, held := range [][]impl.Held{m.held, wrongAmong(m.held, idle)} {
			for _, at := range []int{0, 2} {
				o := officeOf(m.heldKey, request((m.msg+1)%100, 0), request((m.msg+2)%100, 10, 1))
				o.Cases = slices.Insert(o.Cases, at, request(m.msg, 50, 2, 1))
				o.Held = held
				next := signedWith(t, o, at, m.members, m.drawn, m.sig())
				if c := next.Cases[at]; !impl.PolicyMay(o.Roles, o.Rules, c.For, c.Amount) {
					t.Errorf("%+v is signed", c)
				}
			}
		}
	})
}

// P148 and P149: wrong shares of every set of members. They make parts wrong, unless the challenge is 0, where no share matters.
func TestOfficeSignReportsExactlyTheSignersWithWrongShares(t *testing.T) {
	eachMeeting(func(m meeting) {
		c := crew{m.key.Need, m.key.Many}
		for _, wrong := range membersAmong(c, 0) {
			o := officeOf(m.heldKey, request(m.msg, 99, 3))
			o.Held = wrongAmong(m.held, wrong)
			want := among(m.members, wrong)
			if len(want) == 0 || challengeOf(m.r(), power(m.secret), m.msg) == 0 {
				signedWith(t, o, 0, m.members, m.drawn, m.sig())
				continue
			}
			checkReported(t, o, 0, m.members, m.drawn, want...)
			for _, member := range want {
				if impl.KeyFits(o.Key, member, o.Held[member-1].Share) {
					t.Errorf("member %d of %+v is reported", member, o)
				}
			}
		}
	})
}

// P148: wrong shares whose errors would make up for each other in the sum.
func TestWrongSharesThatMakeUpForEachOtherAreReported(t *testing.T) {
	k := keyOf2Of3()
	m := meetingOf(k, 9, upTo(3), []int{3, 5, 0})
	o := officeOf(k, request(9, 10, 1))
	line := line0(m.members)
	for added := 1; added < 23; added++ {
		for other := 1; other < 23; other++ {
			if (added*line[0]+other*line[2])%23 == 0 {
				o.Held = heldWith(heldWith(k.held, 0, (k.held[0].Share+added)%23), 2, (k.held[2].Share+other)%23)
				checkReported(t, o, 0, m.members, m.drawn, 1, 3)
			}
		}
	}
}

// P148: every share but the right one, of the first member and of the last.
func TestEveryWrongShareIsReported(t *testing.T) {
	for _, k := range officeKeys() {
		members := upTo(k.key.Need)
		m := meetingOf(k, 0, members, []int{3, 5, 0, 22, 11})
		m.msg = messageWith(m.r(), power(k.secret), 5)
		for _, member := range []int{1, k.key.Need} {
			for share := range 23 {
				o := officeOf(k, request(m.msg, 10, 1))
				o.Held = heldWith(k.held, member-1, share)
				if share == k.held[member-1].Share {
					signedWith(t, o, 0, members, m.drawn, m.sig())
				} else {
					checkReported(t, o, 0, members, m.drawn, member)
				}
			}
		}
	}
}

// P146 and P147: exactly the greatest amount that the approvers permit, and one more, and 0 without approvers.
func TestOfficeSignSignsExactlyWhatThePolicyPermits(t *testing.T) {
	k := keyOf2Of3()
	m := meetingOf(k, 9, []int{1, 3}, []int{3, 5, 7})
	approverCases(func(p policy, who []int, most int) {
		for _, amount := range amountsAround(p.rules) {
			o := officeBy(k, p, request(9, amount, who...))
			if amount <= most {
				signedWith(t, o, 0, m.members, m.drawn, m.sig())
			} else {
				checkNotSigned(t, o, 0, m.members, m.drawn)
			}
		}
	})
	checkNotSigned(t, officeOf(k, request(9, 0)), 0, m.members, m.drawn)
}

// P147: a case that is not permitted reports nobody, although shares are wrong.
func TestOfficeSignOfWhatThePolicyForbidsReportsNobody(t *testing.T) {
	eachMeeting(func(m meeting) {
		for _, c := range []impl.Case{request(m.msg, 0), request(m.msg, 11, 1), request(m.msg, 51, 2, 1), signedRequest(m.heldKey, 9, m.msg, 99, 3)} {
			o := officeOf(m.heldKey, c)
			checkNotSigned(t, o, 0, m.members, m.drawn)
			o.Held = wrongAmong(m.held, upTo(m.key.Many))
			checkNotSigned(t, o, 0, m.members, m.drawn)
		}
	})
}

// P147 and P150: each case of each office, and no case, where those that are permitted are signed once.
func TestOfficeSignOfEachCase(t *testing.T) {
	for _, k := range officeKeys() {
		for i, cases := range caseLists(k) {
			o := officeOf(k, cases...)
			for _, at := range someIndexes() {
				m := meetingOf(k, 0, upTo(k.key.Need), nonceLists()[i%4])
				if !isCase(o, at) || o.Cases[at].On || o.Cases[at].Msg == 0 {
					checkNotSigned(t, o, at, m.members, m.drawn)
					continue
				}
				m.msg = o.Cases[at].Msg
				next := signedWith(t, o, at, m.members, m.drawn, m.sig())
				checkNotSigned(t, next, at, m.members, m.drawn)
			}
		}
	}
}

// P150: each list of signers, the same again or others, other nonces, each person, and each amount.
func TestASignedCaseIsSignedOnce(t *testing.T) {
	eachMeeting(func(m meeting) {
		o := officeOf(m.heldKey, request((m.msg+1)%100, 10, 1), request(m.msg, 10, 1))
		next := signedWith(t, o, 1, m.members, m.drawn, m.sig())
		for _, members := range [][]int{m.members, upTo(m.key.Need), upTo(m.key.Many)} {
			for _, nonces := range nonceLists() {
				again := meetingOf(m.heldKey, m.msg, members, nonces)
				checkNotSigned(t, next, 1, members, again.drawn)
			}
		}
		for who := range 5 {
			checkNotApproved(t, next, 1, who)
		}
		for _, amount := range []int{0, 10, 99} {
			checkNotAsked(t, next, m.msg, amount)
		}
		other := meetingOf(m.heldKey, (m.msg+1)%100, m.members, nonceLists()[3])
		both := signedWith(t, next, 0, other.members, other.drawn, other.sig())
		checkNotSigned(t, both, 0, other.members, other.drawn)
		checkNotSigned(t, both, 1, m.members, m.drawn)
	})
}

// P147 and the section of OfficeSign: every list of up to four signers near the range.
func TestOfficeSignSucceedsForExactlyTheValidSigners(t *testing.T) {
	for _, c := range crews() {
		k := heldKeyOf(c, nil, []int{19, 4, 7, 13, 1}[:c.need])
		o := officeOf(k, request(9, 10, 1))
		for length := range 5 {
			for _, members := range tuples([]int{0, 1, 2, 3, 4, 5, 6}, length) {
				valid := length >= c.need && slices.IsSorted(members) && len(slices.Compact(slices.Clone(members))) == length
				valid = valid && (length == 0 || members[0] >= 1 && members[length-1] <= c.many)
				drawn := []int{8, 0, 22, 8}[:length]
				if valid {
					signedWith(t, o, 0, members, drawn, aloneBy(k.secret, 9, []int{0, 8, 8, 30, 38}[length]))
				} else {
					checkNotSigned(t, o, 0, members, drawn)
				}
			}
		}
	}
}

// Section of OfficeSign: signers that are none, at each position, far ones too, one fewer than are needed, and one more than there are.
func TestOfficeSignByMembersThatThereAreNotFails(t *testing.T) {
	for _, m := range fewMeetings() {
		for _, held := range [][]impl.Held{m.held, wrongAmong(m.held, upTo(m.key.Many))} {
			o := officeOf(m.heldKey, request(m.msg, 99, 3))
			o.Held = held
			for i, member := range m.members {
				checkNotSigned(t, o, 0, slices.Insert(slices.Clone(m.members), i, member), slices.Insert(slices.Clone(m.drawn), i, m.drawn[i]))
				for _, bad := range append(outsideMembers(), m.key.Many+1) {
					checkNotSigned(t, o, 0, with(m.members, i, bad), m.drawn)
				}
			}
			if len(m.members) > 1 {
				checkNotSigned(t, o, 0, reversed(m.members), m.drawn)
			}
			checkNotSigned(t, o, 0, m.members[:m.key.Need-1], m.drawn[:m.key.Need-1])
			checkNotSigned(t, o, 0, upTo(m.key.Many+1), []int{1, 1, 1, 1, 1, 1}[:m.key.Many+1])
			checkNotSigned(t, o, 0, upTo(100), slices.Repeat([]int{1}, 100))
			checkNotSigned(t, o, 0, nil, nil)
			checkNotSigned(t, o, 0, []int{}, []int{})
		}
	}
}

// Section of OfficeSign: as many drawn numbers as members, fewer and more, and those that are not field elements, at each position.
func TestOfficeSignWithWrongDrawnNumbersFails(t *testing.T) {
	for _, m := range append(fewMeetings(), meetings()...) {
		for _, held := range [][]impl.Held{m.held, wrongAmong(m.held, upTo(m.key.Many))} {
			o := officeOf(m.heldKey, request(m.msg, 99, 3))
			o.Held = held
			for _, drawn := range [][]int{nil, {}, m.drawn[1:], m.drawn[:len(m.drawn)-1], append(slices.Clone(m.drawn), 0), append(slices.Clone(m.drawn), -1), slices.Repeat(m.drawn, 20)} {
				checkNotSigned(t, o, 0, m.members, drawn)
			}
			for _, members := range [][]int{nil, m.members[1:], m.members[:len(m.members)-1], append(slices.Clone(m.members), m.key.Many+1)} {
				checkNotSigned(t, o, 0, members, m.drawn)
			}
		}
	}
	for _, m := range fewMeetings() {
		o := officeOf(m.heldKey, request(m.msg, 99, 3))
		for i, nonce := range m.drawn {
			for _, bad := range append(outsideField(), nonce+23, nonce-23) {
				checkNotSigned(t, o, 0, m.members, with(m.drawn, i, bad))
			}
		}
	}
}

// P149: every nonce of every signer, and every message.
func TestOfficeSignByEveryNonceAndMessage(t *testing.T) {
	k := keyOf2Of3()
	for msg := range 100 {
		for drawn := range 23 {
			m := meetingOf(k, msg, []int{2, 3}, []int{0, drawn, (7*msg + drawn) % 23})
			signedWith(t, officeOf(k, request(msg, 99, 3)), 0, m.members, m.drawn, m.sig())
		}
	}
	for _, drawn := range tuples(upTo22(), 2) {
		m := meetingOf(k, 9, []int{1, 2}, drawn)
		signedWith(t, officeOf(k, request(9, 0, 1)), 0, m.members, m.drawn, m.sig())
	}
}

// P154: the key, the shares, the policy and the number of cases, whatever is signed or not.
func TestOfficeSignLeavesAllButTheCaseAsItIs(t *testing.T) {
	for _, o := range append(offices(), fewOffices()...) {
		for at := -1; at <= 6; at++ {
			for _, members := range [][]int{nil, {1}, upTo(o.Key.Need), upTo(o.Key.Many), upTo(5)} {
				for _, drawn := range [][]int{nil, []int{3, 5, 0, 22, 11}[:len(members)]} {
					next, _, _ := impl.OfficeSign(o, at, members, drawn)
					before := o
					if len(next.Cases) != len(o.Cases) {
						t.Errorf("OfficeSign(%+v, %d, %v, %v) is %+v", o, at, members, drawn, next)
					}
					before.Cases, next.Cases = nil, nil
					if !sameOffice(next, before) {
						t.Errorf("OfficeSign(%+v, %d, %v, %v) is %+v", o, at, members, drawn, next)
					}
				}
			}
		}
	}
}

// P142 to P154, as values.
func TestOfficesAtNamedValues(t *testing.T) {
	k := impl.Key{Need: 2, Many: 3, Good: []int{1, 2}, Commit: []int{7, 16}}
	held := []impl.Held{{Member: 1, Share: 16}, {Member: 2, Share: 20}, {Member: 3, Share: 2}}
	p := threePeople()
	o, ok := impl.OfficeNew(k, held, p.roles, p.rules)
	if !ok {
		t.Fatal("there is no office")
	}
	o = asked(t, o, 9, 20)
	checkNotAsked(t, o, 9, 5)
	o = approved(t, o, 0, 1)
	checkNotApproved(t, o, 0, 1)
	checkNotApproved(t, o, 0, 4)
	checkNotApproved(t, o, 1, 1)
	checkNotSigned(t, o, 0, []int{1, 2}, []int{3, 5})
	o = approved(t, o, 0, 2)
	checkNotSigned(t, o, 0, []int{1}, []int{3})
	checkReported(t, o, 0, []int{1, 3}, []int{3, 5}, 3)
	checkReported(t, o, 0, upTo(3), []int{3, 4, 1}, 3)
	next := signedWith(t, o, 0, []int{1, 2}, []int{3, 5}, impl.Sig{R: 21, Z: 21})
	checkNotSigned(t, next, 0, []int{1, 2}, []int{3, 5})
	checkNotApproved(t, next, 0, 3)
	checkNotAsked(t, next, 9, 0)
	checkNothingAsked(t, next, 100, 0)
	checkNothingAsked(t, next, 9, 100)
}

// overwriteOffice changes all that is reachable through the office, spare capacity included.
func overwriteOffice(o impl.Office) {
	overwrite(o.Key.Good)
	overwrite(o.Key.Commit)
	for _, c := range o.Cases[:cap(o.Cases)] {
		overwrite(c.For)
	}
	overwriteWith(o.Held, impl.Held{Member: -77, Share: -77})
	overwriteWith(o.Roles, "overwritten")
	overwriteWith(o.Rules, impl.Rule{Role: "overwritten", Many: -77, Most: -77})
	overwriteWith(o.Cases, impl.Case{Msg: -77, Amount: -77, On: true, Sig: impl.Sig{R: -77, Z: -77}})
}

func overwriteWith[T any](list []T, element T) {
	for i := range list[:cap(list)] {
		list[:cap(list)][i] = element
	}
}

// wholeOffice is an office each list of which has spare capacity, with the arrays below them.
type wholeOffice struct {
	office       impl.Office
	good, commit []int
	held         []impl.Held
	roles        []string
	rules        []impl.Rule
	cases        []impl.Case
	approvers    [][]int
}

func wholeOfficeOf(o impl.Office) wholeOffice {
	w := wholeOffice{office: o}
	w.office.Key.Good, w.good = withRoom(o.Key.Good)
	w.office.Key.Commit, w.commit = withRoom(o.Key.Commit)
	w.office.Held, w.held = withRoomFor(o.Held, impl.Held{Member: 91, Share: 92}, impl.Held{Member: 5, Share: 5})
	w.office.Roles, w.roles = withRoomFor(o.Roles, "b", "x")
	w.office.Rules, w.rules = withRoomFor(o.Rules, impl.Rule{Role: "c", Many: 1, Most: 7}, impl.Rule{Role: "x", Many: -1, Most: -1})
	w.office.Cases, w.cases = withRoomFor(o.Cases, request(42, 42), request(-5, 500))
	for i, c := range o.Cases {
		copied, whole := withRoom(c.For)
		w.office.Cases[i].For = copied
		w.approvers = append(w.approvers, whole)
	}
	return w
}

// look writes all down that is reachable through the office.
func (w wholeOffice) look() string {
	return fmt.Sprint(w.office, w.good, w.commit, w.held, w.roles, w.rules, w.cases, w.approvers)
}

// officeAnd is what a function returns: an office, and members.
type officeAnd struct {
	office  impl.Office
	members []int
}

func (r officeAnd) lists() [][]int {
	list := [][]int{r.office.Key.Good, r.office.Key.Commit, r.members}
	for _, c := range r.office.Cases {
		list = append(list, c.For)
	}
	return list
}

// checkOfficeMemory fails the test if the function changes its office, or if its result shares memory with it, with the result of another call or within itself.
func checkOfficeMemory(t *testing.T, name string, o impl.Office, function func(o impl.Office) officeAnd) {
	t.Helper()
	given := wholeOfficeOf(o)
	before := given.look()
	first, second := function(given.office), function(given.office)
	kept := fmt.Sprint(second)
	overwriteOffice(first.office)
	overwrite(first.members)
	if given.look() != before {
		t.Errorf("%s: %s became %s", name, before, given.look())
	}
	if fmt.Sprint(second) != kept {
		t.Errorf("%s of %+v: two results share memory", name, o)
	}
	overwriteOffice(given.office)
	if fmt.Sprint(second) != kept {
		t.Errorf("%s of %+v: the result is %+v after the argument is overwritten", name, o, second)
	}
	checkApart(t, name, second.lists()...)
}

// memoryOffices lists offices with all lists of cases, some of which are invalid.
func memoryOffices() []impl.Office {
	list := []impl.Office{{}}
	for _, o := range fewOffices() {
		bad := o
		bad.Cases = append(slices.Clone(o.Cases), request(100, 7, 1, 2), request(42, 7, 1, 1))
		worse := o
		worse.Key.Good = []int{2, 1}
		list = append(list, o, bad, worse)
	}
	return list
}

// General rules: what is returned is new memory, also where it is the office as it was, and no argument is changed.
func TestOfficesShareNoMemory(t *testing.T) {
	for _, o := range memoryOffices() {
		for _, msg := range []int{0, 42, 100} {
			checkOfficeMemory(t, "OfficeAsk", o, func(o impl.Office) officeAnd {
				next, _ := impl.OfficeAsk(o, msg, 10)
				return officeAnd{office: next}
			})
		}
		for at := -1; at <= 6; at++ {
			for who := range 5 {
				checkOfficeMemory(t, "OfficeVote", o, func(o impl.Office) officeAnd {
					next, _ := impl.OfficeVote(o, at, who)
					return officeAnd{office: next}
				})
			}
			for _, members := range [][]int{nil, {1, 2}, {2, 3}, {1, 2, 3}} {
				checkOfficeMemory(t, "OfficeSign", o, func(o impl.Office) officeAnd {
					next, bad, _ := impl.OfficeSign(o, at, members, []int{3, 5, 0}[:len(members)])
					return officeAnd{next, bad}
				})
			}
		}
		checkOfficeMemory(t, "OfficeOk", o, func(o impl.Office) officeAnd {
			impl.OfficeOk(o)
			return officeAnd{}
		})
		checkOfficeMemory(t, "OfficeNew", o, func(o impl.Office) officeAnd {
			next, _ := impl.OfficeNew(o.Key, o.Held, o.Roles, o.Rules)
			return officeAnd{office: next}
		})
	}
}

// General rules: the members and drawn numbers stay as they are, and who is reported is new memory, also if all members are.
func TestOfficeSignKeepsTheMembers(t *testing.T) {
	for _, m := range fewMeetings() {
		for _, held := range [][]impl.Held{m.held, wrongAmong(m.held, upTo(m.key.Many))} {
			o := officeOf(m.heldKey, request(m.msg, 99, 3))
			o.Held = held
			checkMemory(t, "the reported of OfficeSign", func(lists [][]int) []int {
				_, bad, _ := impl.OfficeSign(o, 0, lists[0], lists[1])
				return bad
			}, m.members, m.drawn)
		}
	}
}

// General rules: the offices before stay as they are, also where two others follow on one.
func TestOfficesBeforeAChangeStayAsTheyAre(t *testing.T) {
	k := keyOf2Of3()
	before := []impl.Office{officeOf(k)}
	for i := range 6 {
		o := before[i]
		before = append(before, asked(t, o, 10*i, 10))
		asked(t, o, 10*i+1, 99)
		for at := range i {
			if who := 1 + at%3; len(o.Cases[at].For) < who {
				approved(t, o, at, who)
			}
			impl.OfficeSign(o, at, []int{1, 2}, []int{3, 4})
		}
	}
	for i, o := range before {
		want := officeOf(k)
		for n := range i {
			want = plusCase(want, request(10*n, 10))
		}
		if !sameOffice(o, want) {
			t.Errorf("the office is %+v, not %+v", o, want)
		}
	}
	voters := []impl.Office{officeOf(k, request(9, 10))}
	for who := 1; who <= 3; who++ {
		voters = append(voters, approved(t, voters[who-1], 0, who))
		for other := who + 1; other <= 3; other++ {
			approved(t, voters[who-1], 0, other)
		}
		impl.OfficeSign(voters[who], 0, []int{1, 2}, []int{3, 4})
	}
	for i, o := range voters {
		if want := officeOf(k, request(9, 10, upTo(i)...)); !sameOffice(o, want) {
			t.Errorf("the office is %+v, not %+v", o, want)
		}
	}
}

// General rules: nothing is kept from one call to the next, also when calls run at the same time.
func TestOfficesKeepNoState(t *testing.T) {
	k := keyOf2Of3()
	m := meetingOf(k, 9, []int{1, 3}, []int{3, 5, 7})
	var callers sync.WaitGroup
	for range 8 {
		callers.Go(func() {
			for range 30 {
				o := officeOf(k, request(9, 10, 1))
				signedWith(t, o, 0, m.members, m.drawn, m.sig())
				o.Held = wrongAmong(k.held, []int{3})
				checkReported(t, o, 0, m.members, m.drawn, 3)
				checkNotSigned(t, officeOf(k, request(9, 11, 1)), 0, m.members, m.drawn)
				checkNotAsked(t, o, 9, 10)
				asked(t, o, 10, 10)
				checkNothingAsked(t, o, 10, 100)
				checkNotApproved(t, o, 0, 1)
				approved(t, o, 0, 2)
				checkOfficeOk(t, officeOf(k, request(9, 10, 1), request(9, 10)), false)
				checkOfficeOk(t, officeOf(k, request(9, 10, 1), request(8, 10)), true)
			}
		})
	}
	callers.Wait()
}

// General rules: the limit is as in the table of constants.
func TestTheLimitOfOffices(t *testing.T) {
	if impl.CaseMax != 6 {
		t.Errorf("CaseMax is %d", impl.CaseMax)
	}
}
