package tests

import (
	"math"
	"runtime"
	"slices"
	"sync"
	"testing"

	"loop.example/wardstaff/impl"
)

// heldBy gives each member its share.
func heldBy(members, shares []int) []impl.Held {
	var list []impl.Held
	for i, member := range members {
		list = append(list, impl.Held{Member: member, Share: shares[i]})
	}
	return list
}

// heldOf gives each member the value of p.
func heldOf(p, members []int) []impl.Held {
	var list []impl.Held
	for _, member := range members {
		list = append(list, impl.Held{Member: member, Share: valueAt(p, member)})
	}
	return list
}

// heldWith returns a copy of l with another share at the index.
func heldWith(l []impl.Held, index, share int) []impl.Held {
	changed := slices.Clone(l)
	changed[index].Share = share
	return changed
}

// heldWithout returns a copy of l without the share at the index.
func heldWithout(l []impl.Held, index int) []impl.Held {
	return slices.Delete(slices.Clone(l), index, index+1)
}

// memberSets lists all ascending lists of members, the empty one and that of all five included.
func memberSets() [][]int {
	var list [][]int
	for set := range 1 << 5 {
		list = append(list, inSet(set))
	}
	return list
}

// fewHeld lists share lists of every set of members, with some shares each.
func fewHeld() [][]impl.Held {
	var list [][]impl.Held
	for _, members := range memberSets() {
		for _, shares := range [][]int{{0, 0, 0, 0, 0}, {22, 22, 22, 22, 22}, {1, 2, 3, 4, 5}, {7, 0, 22, 13, 1}} {
			list = append(list, heldBy(members, shares))
		}
	}
	return list
}

// heldFrom lists the share lists of every set of members, where choices[n] are the shares that a list of n members has.
func heldFrom(choices [6][]int) [][]impl.Held {
	var list [][]impl.Held
	for _, members := range memberSets() {
		for _, shares := range tuples(choices[len(members)], len(members)) {
			list = append(list, heldBy(members, shares))
		}
	}
	return list
}

// allHeld lists every share list of up to two members, and many of three to five.
func allHeld() [][]impl.Held {
	return heldFrom([6][]int{nil, upTo22(), upTo22(), {0, 1, 9, 22}, {0, 1, 22}, {0, 22}})
}

// manyHeld lists every share list of one member, and some of two to five, for tests that try all secrets.
func manyHeld() [][]impl.Held {
	return heldFrom([6][]int{nil, upTo22(), secrets(), {0, 1, 9, 22}, {0, 22}, {0, 22}})
}

// outsideHeld lists share lists with one thing wrong each: the order, a member or a share, at each position.
func outsideHeld() [][]impl.Held {
	shares := []int{7, 0, 22, 13, 1, 4, 9}
	var list [][]impl.Held
	for _, members := range [][]int{
		{1, 1}, {5, 5}, {2, 1}, {5, 1}, {1, 2, 2}, {1, 1, 2}, {1, 2, 1}, {1, 3, 2}, {2, 1, 3}, {3, 2, 1},
		{1, 2, 3, 3}, {1, 2, 4, 3}, {1, 2, 3, 5, 4}, {2, 1, 3, 4, 5}, {5, 4, 3, 2, 1}, {1, 2, 3, 4, 4},
		{1, 2, 3, 4, 5, 5}, {1, 2, 3, 4, 5, 6}, {0, 1, 2, 3, 4, 5}, {1, 1, 2, 3, 4, 5}, {1, 2, 3, 4, 5, 1}, {0, 1, 2, 3, 4, 5, 6},
	} {
		list = append(list, heldBy(members, shares))
	}
	for _, bad := range outsideMembers() {
		list = append(list, heldBy([]int{bad}, shares))
		if bad < 1 {
			list = append(list, heldBy([]int{bad, 1}, shares), heldBy([]int{bad, 2, 3, 4, 5}, shares))
		} else {
			list = append(list, heldBy([]int{1, bad}, shares), heldBy([]int{1, 2, 3, 4, bad}, shares))
		}
	}
	for _, members := range memberSets() {
		for i := range members {
			for _, bad := range outsideField() {
				list = append(list, heldBy(members, with(shares, i, bad)))
			}
		}
	}
	for _, far := range []int{math.MinInt, math.MaxInt} {
		list = append(list, []impl.Held{{Member: far, Share: far}})
	}
	return append(list, []impl.Held{{}}, make([]impl.Held, 6), make([]impl.Held, 100))
}

// secretOf fails the test if the shares give no secret.
func secretOf(t *testing.T, need int, l []impl.Held) int {
	t.Helper()
	secret, ok := impl.SecretOf(need, l)
	if !ok {
		t.Fatalf("SecretOf(%d, %v) failed", need, l)
	}
	return secret
}

func checkSecret(t *testing.T, need int, l []impl.Held, want int) {
	t.Helper()
	if secret, ok := impl.SecretOf(need, l); secret != want || !ok {
		t.Errorf("SecretOf(%d, %v) is %d, %v, not %d", need, l, secret, ok, want)
	}
}

func checkNoSecret(t *testing.T, need int, l []impl.Held) {
	t.Helper()
	if secret, ok := impl.SecretOf(need, l); secret != 0 || ok {
		t.Errorf("SecretOf(%d, %v) is %d, %v", need, l, secret, ok)
	}
}

func checkWays(t *testing.T, need int, l []impl.Held, secret, want int) {
	t.Helper()
	if ways := impl.SecretWays(need, l, secret); ways != want {
		t.Errorf("SecretWays(%d, %v, %d) is %d, not %d", need, l, secret, ways, want)
	}
}

func checkHeldBad(t *testing.T, k impl.Key, l []impl.Held, want []int) {
	t.Helper()
	if bad := impl.SecretBad(k, l); !slices.Equal(bad, want) {
		t.Errorf("SecretBad(%v, %v) is %v, not %v", k, l, bad, want)
	}
}

// heldKey is a key with the shares of all members.
type heldKey struct {
	key    impl.Key
	held   []impl.Held
	secret int
}

// heldKeys makes keys of the committee by dealing, where some deals are right, some answered and some do not count.
func heldKeys(t *testing.T, c crew) []heldKey {
	t.Helper()
	var list []heldKey
	for _, states := range tuples([]int{stateRight, stateAnswered, stateWrong}, c.many) {
		s := sceneOf(c, states)
		if len(s.good(c)) < c.need {
			continue
		}
		k := keyMade(t, c, s.deals, s.answers)
		var held []impl.Held
		for member := 1; member <= c.many; member++ {
			share, ok := impl.KeyShare(k, s.deals, s.answers, member)
			if !ok {
				t.Fatalf("member %d has no share of %v", member, k)
			}
			held = append(held, impl.Held{Member: member, Share: share})
		}
		list = append(list, heldKey{k, held, sumBy(c, s.good(c))[0]})
	}
	return list
}

// heldAmong picks the shares of the members.
func heldAmong(l []impl.Held, members []int) []impl.Held {
	return slices.DeleteFunc(slices.Clone(l), func(h impl.Held) bool { return !slices.Contains(members, h.Member) })
}

// membersAmong lists the ascending lists of members of the committee, at least as many as given.
func membersAmong(c crew, least int) [][]int {
	return slices.DeleteFunc(memberSets(), func(members []int) bool {
		return len(members) < least || len(members) > 0 && members[len(members)-1] > c.many
	})
}

// Section of HeldOk: every list of up to three members near the range.
func TestHeldOkIsTrueForAscendingMembers(t *testing.T) {
	for length := 0; length <= 3; length++ {
		for _, members := range tuples([]int{-1, 0, 1, 2, 3, 4, 5, 6}, length) {
			want := true
			for i, member := range members {
				want = want && member >= 1 && member <= 5 && (i == 0 || members[i-1] < member)
			}
			for _, shares := range [][]int{{0, 0, 0}, {22, 22, 22}, {3, 2, 1}} {
				if l := heldBy(members, shares); impl.HeldOk(l) != want {
					t.Errorf("HeldOk(%v) is not %v", l, want)
				}
			}
		}
	}
}

// Section of HeldOk: each share is a field element.
func TestHeldOkIsTrueForFieldElements(t *testing.T) {
	for _, l := range allHeld() {
		if !impl.HeldOk(l) {
			t.Errorf("HeldOk(%v) is false", l)
		}
	}
	for _, members := range memberSets() {
		for i := range members {
			for share := -50; share <= 50; share++ {
				l := heldBy(members, with([]int{7, 0, 22, 13, 1}, i, share))
				if want := share >= 0 && share <= 22; impl.HeldOk(l) != want {
					t.Errorf("HeldOk(%v) is not %v", l, want)
				}
			}
		}
	}
}

// Section of HeldOk: no shares at all are a share list.
func TestNoSharesAreAShareList(t *testing.T) {
	if !impl.HeldOk(nil) || !impl.HeldOk([]impl.Held{}) {
		t.Error("the empty list is not valid")
	}
}

// Section of HeldOk: false for whatever is wrong.
func TestHeldOkIsFalseForNoShareLists(t *testing.T) {
	for _, l := range outsideHeld() {
		if impl.HeldOk(l) {
			t.Errorf("HeldOk(%v)", l)
		}
	}
}

// P67
func TestAShareListStaysValidWithAnyOneRemoved(t *testing.T) {
	for _, l := range fewHeld() {
		for i := range l {
			if less := heldWithout(l, i); !impl.HeldOk(l) || !impl.HeldOk(less) {
				t.Errorf("%v or %v is not valid", l, less)
			}
		}
	}
}

// P67: the repeated member stands beside itself or elsewhere, with the same share or another.
func TestAShareListWithAMemberRepeatedIsInvalid(t *testing.T) {
	for _, l := range fewHeld() {
		for _, h := range l {
			for at := 0; at <= len(l); at++ {
				for _, share := range []int{h.Share, (h.Share + 1) % 23} {
					more := slices.Insert(slices.Clone(l), at, impl.Held{Member: h.Member, Share: share})
					if impl.HeldOk(more) {
						t.Errorf("%v is valid", more)
					}
				}
			}
		}
	}
}

// P61
func TestAnyRequiredNumberOfSharesGivesTheSecretOfTheKey(t *testing.T) {
	for _, c := range crews() {
		for _, k := range heldKeys(t, c) {
			for _, members := range ascendingMembers(c) {
				l := heldAmong(k.held, members)
				checkSecret(t, c.need, l, k.secret)
				if secret := secretOf(t, c.need, l); impl.GroupOf(secret) != impl.KeyPub(k.key) {
					t.Errorf("%v give the secret %d of %v", l, secret, k.key)
				}
			}
		}
	}
}

// P61: just as many shares as are needed, one more, and all, of every set of members.
func TestMoreSharesThanRequiredGiveTheSameSecret(t *testing.T) {
	for _, c := range crews() {
		for _, k := range heldKeys(t, c) {
			for _, members := range membersAmong(c, c.need) {
				checkSecret(t, c.need, heldAmong(k.held, members), k.secret)
			}
		}
	}
}

// P61, for every secret, 0 and 22 included.
func TestTheSecretOfOneDealIsTheDealtOne(t *testing.T) {
	for _, c := range crews() {
		for secret := range 23 {
			for _, seed := range seeds() {
				d := dealt(t, 1, c, secret, seed)
				held := heldBy(upTo(c.many), d.Shares)
				for _, members := range membersAmong(c, c.need) {
					checkSecret(t, c.need, heldAmong(held, members), secret)
				}
			}
		}
	}
}

// P62, for share lists of no key at all.
func TestSecretOfIsTheWeightedSumOfTheFirstShares(t *testing.T) {
	for _, l := range allHeld() {
		var members, shares []int
		for _, h := range l {
			members, shares = append(members, h.Member), append(shares, h.Share)
		}
		for need := 1; need <= len(l); need++ {
			want := 0
			for i, weight := range impl.PolyLine(members[:need], 0) {
				want = impl.FieldSum(want, impl.FieldMul(weight, shares[i]))
			}
			checkSecret(t, need, l, want)
		}
	}
}

// P62, as values: the shares are those of a polynomial, and every list of shares is that of one.
func TestSecretOfIsTheFirstCoefficient(t *testing.T) {
	for _, p := range polynomials() {
		for _, members := range memberSets() {
			if len(p) == len(members) {
				checkSecret(t, len(p), heldOf(p, members), p[0])
			}
		}
	}
}

// P62: what stands behind the first shares does not count.
func TestSecretOfTakesNoMoreSharesThanRequired(t *testing.T) {
	for _, p := range fewPolynomials() {
		for _, members := range memberSets() {
			l := heldOf(p, members)
			for i := len(p); i < len(l); i++ {
				for _, share := range upTo22() {
					checkSecret(t, len(p), heldWith(l, i, share), p[0])
				}
			}
		}
	}
}

// P62, as values.
func TestSecretOfAtNamedValues(t *testing.T) {
	for _, c := range []struct {
		need            int
		members, shares []int
		want            int
	}{
		{2, []int{1, 2}, []int{5, 7}, 3},
		{1, []int{1, 2}, []int{5, 7}, 5},
		{1, []int{2}, []int{7}, 7},
		{1, []int{5}, []int{0}, 0},
		{1, []int{5}, []int{22}, 22},
		{2, []int{1, 2}, []int{0, 0}, 0},
		{2, []int{1, 2}, []int{22, 22}, 22},
		{2, []int{1, 3}, []int{15, 12}, 5},
		{2, []int{2, 3}, []int{2, 12}, 5},
		{2, []int{1, 2, 3}, []int{15, 2, 0}, 5},
		{3, []int{1, 2, 3}, []int{1, 4, 9}, 0},
		{3, []int{2, 3, 5}, []int{4, 9, 2}, 0},
		{5, []int{1, 2, 3, 4, 5}, []int{18, 15, 21, 4, 8}, 0},
		{4, []int{1, 2, 3, 4, 5}, []int{1, 8, 4, 18, 0}, 0},
	} {
		checkSecret(t, c.need, heldBy(c.members, c.shares), c.want)
	}
}

// P62: one fewer than required, and none.
func TestSecretOfFailsForFewerShares(t *testing.T) {
	for _, l := range fewHeld() {
		for need := len(l) + 1; need <= 30; need++ {
			checkNoSecret(t, need, l)
		}
	}
	for _, c := range crews() {
		for _, k := range heldKeys(t, c) {
			for _, members := range membersAmong(c, 0) {
				if len(members) < c.need {
					checkNoSecret(t, c.need, heldAmong(k.held, members))
				}
			}
		}
	}
}

// outsideNeeds lists what no number of shares is.
func outsideNeeds() []int {
	return []int{0, -1, -2, -5, -23, math.MinInt, math.MinInt + 1, 6, 7, 23, 24, math.MaxInt - 1, math.MaxInt}
}

// Section of SecretOf: 0 and false for invalid lists, and if need is out of range.
func TestSecretOfOfInvalidArgumentsFails(t *testing.T) {
	for _, l := range slices.Concat(fewHeld(), outsideHeld()) {
		for _, need := range outsideNeeds() {
			checkNoSecret(t, need, l)
		}
	}
	for _, l := range outsideHeld() {
		for need := 1; need <= min(len(l)+1, 8); need++ {
			checkNoSecret(t, need, l)
		}
	}
	for need := 0; need <= 6; need++ {
		checkNoSecret(t, need, nil)
		checkNoSecret(t, need, []impl.Held{})
	}
}

// P69
func TestALargerThresholdGivesTheSameSecret(t *testing.T) {
	for _, c := range crews() {
		for _, k := range heldKeys(t, c) {
			for _, members := range membersAmong(c, c.need) {
				for need := c.need; need <= len(members); need++ {
					checkSecret(t, need, heldAmong(k.held, members), k.secret)
				}
			}
		}
	}
	for _, p := range polynomials() {
		for need := len(p); need <= 5; need++ {
			checkSecret(t, need, heldOf(p, upTo(5)), p[0])
		}
	}
}

// P70
func TestAChangedShareChangesTheSecretAndIsReported(t *testing.T) {
	for _, c := range crews() {
		k := heldKeys(t, c)[0]
		for _, members := range ascendingMembers(c) {
			l := heldAmong(k.held, members)
			checkHeldBad(t, k.key, l, nil)
			for i, h := range l {
				for added := 1; added < 23; added++ {
					changed := heldWith(l, i, (h.Share+added)%23)
					if secret := secretOf(t, c.need, changed); secret == k.secret {
						t.Errorf("%v give the secret %d as %v do", changed, secret, l)
					}
					checkHeldBad(t, k.key, changed, []int{h.Member})
				}
			}
		}
	}
}

// power23 is 23 to the power n.
func power23(n int) int {
	product := 1
	for range n {
		product *= 23
	}
	return product
}

// P63 and P65: none, and up to one fewer than required.
func TestFewerSharesThanRequiredTellNothing(t *testing.T) {
	for _, l := range manyHeld() {
		for need := len(l) + 1; need <= 3; need++ {
			for secret := range 23 {
				checkWays(t, need, l, secret, power23(need-len(l)-1))
			}
		}
	}
}

// P63, for the shares of a key: the true secret is as likely as every other.
func TestFewerSharesOfAKeyTellNothing(t *testing.T) {
	for _, c := range crews() {
		if c.need > 3 {
			continue
		}
		k := heldKeys(t, c)[0]
		for _, members := range membersAmong(c, 0) {
			if len(members) >= c.need {
				continue
			}
			l := heldAmong(k.held, members)
			ways := impl.SecretWays(c.need, l, k.secret)
			if ways < 1 {
				t.Errorf("SecretWays(%d, %v, %d) is %d", c.need, l, k.secret, ways)
			}
			for secret := range 23 {
				checkWays(t, c.need, l, secret, ways)
			}
		}
	}
}

// P64, as many shares as required.
func TestEnoughSharesLeaveOneSecret(t *testing.T) {
	for _, l := range manyHeld() {
		if len(l) < 1 || len(l) > 3 {
			continue
		}
		right := secretOf(t, len(l), l)
		for secret := range 23 {
			if secret == right {
				checkWays(t, len(l), l, secret, 1)
			} else {
				checkWays(t, len(l), l, secret, 0)
			}
		}
	}
}

// P64, more shares than required, all of one polynomial, and with one of them changed of none.
func TestMoreSharesLeaveOneSecretIfTheyFitOnePolynomial(t *testing.T) {
	for need := 1; need <= 3; need++ {
		for _, p := range tuples([]int{0, 7, 22}, need) {
			for _, members := range memberSets() {
				if len(members) <= need {
					continue
				}
				l := heldOf(p, members)
				for secret := range 23 {
					if secret == p[0] {
						checkWays(t, need, l, secret, 1)
					} else {
						checkWays(t, need, l, secret, 0)
					}
				}
				for i, h := range l {
					changed := heldWith(l, i, (h.Share+1+i)%23)
					for _, secret := range []int{0, p[0], (p[0] + 1) % 23, 22, secretOf(t, need, changed)} {
						checkWays(t, need, changed, secret, 0)
					}
				}
			}
		}
	}
}

// P64 and P68, for shares that were not made to fit: there is at most one polynomial, and it has the secret of every required number of them.
func TestMoreSharesLeaveAtMostOnePolynomial(t *testing.T) {
	fitting, unfitting := 0, 0
	for _, l := range manyHeld() {
		for need := 1; need <= 3 && need < len(l); need++ {
			sum := 0
			for secret := range 23 {
				ways := impl.SecretWays(need, l, secret)
				sum += ways
				if ways < 0 || ways > 1 || ways == 1 && secret != secretOf(t, need, l) {
					t.Errorf("SecretWays(%d, %v, %d) is %d", need, l, secret, ways)
				}
			}
			want := 0
			if fitsOnePolynomial(need, l) {
				want = 1
				fitting++
			} else {
				unfitting++
			}
			if sum != want {
				t.Errorf("SecretWays(%d, %v, _) adds up to %d, not %d", need, l, sum, want)
			}
		}
	}
	if fitting == 0 || unfitting == 0 {
		t.Errorf("%d lists fit, %d do not", fitting, unfitting)
	}
}

// fitsOnePolynomial reports whether the first shares determine all others by PolyLine.
func fitsOnePolynomial(need int, l []impl.Held) bool {
	var members []int
	shares := make([]int, 5)
	for _, h := range l {
		members = append(members, h.Member)
		shares[h.Member-1] = h.Share
	}
	for _, h := range l {
		if weighted(shares, members[:need], h.Member) != h.Share {
			return false
		}
	}
	return true
}

// P64 and P65, by trying all polynomials without the program.
func TestSecretWaysIsTheNumberOfPolynomials(t *testing.T) {
	for need := 1; need <= 3; need++ {
		all := tuples(upTo22(), need)
		for _, l := range [][]impl.Held{
			nil, {},
			{{Member: 1, Share: 0}}, {{Member: 5, Share: 22}}, {{Member: 3, Share: 9}},
			heldOf([]int{4}, []int{2, 5}), heldOf([]int{0, 22}, []int{1, 2}), heldOf([]int{22, 1}, []int{1, 2, 3, 4, 5}),
			heldOf([]int{9, 0, 7}, []int{2, 3, 4}), heldOf([]int{22, 3, 0}, []int{1, 4, 5}), heldOf([]int{0, 0, 1}, []int{1, 2, 3, 4, 5}),
			heldOf([]int{1, 2, 3, 4}, []int{1, 2, 3, 4}), heldOf([]int{0, 0, 0, 22}, []int{2, 3, 4, 5}),
		} {
			want := make([]int, 23)
			for _, p := range all {
				if slices.Equal(heldOf(p, membersIn(l)), l) {
					want[p[0]]++
				}
			}
			for secret := range 23 {
				checkWays(t, need, l, secret, want[secret])
			}
		}
	}
}

func membersIn(l []impl.Held) []int {
	var members []int
	for _, h := range l {
		members = append(members, h.Member)
	}
	return members
}

// P64 and P65, as values.
func TestSecretWaysAtNamedValues(t *testing.T) {
	both := heldBy([]int{1, 2}, []int{5, 7})
	for _, c := range []struct {
		need   int
		l      []impl.Held
		secret int
		want   int
	}{
		{1, nil, 0, 1}, {2, nil, 22, 23}, {3, nil, 0, 529}, {3, nil, 22, 529},
		{1, both[:1], 5, 1}, {1, both[:1], 4, 0}, {2, both[:1], 4, 1}, {3, both[:1], 4, 23}, {3, both[:1], 0, 23}, {3, both[:1], 22, 23},
		{1, both, 5, 0}, {1, both, 7, 0}, {2, both, 3, 1}, {2, both, 4, 0}, {3, both, 3, 1}, {3, both, 4, 1}, {3, both, 0, 1}, {3, both, 22, 1},
		{1, heldBy([]int{1, 5}, []int{22, 22}), 22, 1}, {1, heldBy([]int{1, 5}, []int{22, 22}), 0, 0},
		{1, heldBy([]int{1, 2, 3, 4, 5}, []int{0, 0, 0, 0, 0}), 0, 1},
		{3, heldBy([]int{1, 2, 3}, []int{1, 4, 9}), 0, 1}, {3, heldBy([]int{1, 2, 3}, []int{1, 4, 9}), 1, 0},
		{2, heldBy([]int{1, 2, 3}, []int{1, 4, 9}), 0, 0},
		{3, heldBy([]int{1, 2, 3, 4, 5}, []int{1, 4, 9, 16, 2}), 0, 1}, {3, heldBy([]int{1, 2, 3, 4, 5}, []int{1, 4, 9, 16, 3}), 0, 0},
	} {
		checkWays(t, c.need, c.l, c.secret, c.want)
	}
}

// P68, for what does not exceed the required number of shares.
func TestSecretWaysOfAllSecretsAddUp(t *testing.T) {
	for _, l := range fewHeld() {
		for need := 1; need <= 3; need++ {
			sum := 0
			for secret := range 23 {
				sum += impl.SecretWays(need, l, secret)
			}
			if len(l) <= need && sum != power23(need-len(l)) || len(l) > need && (sum < 0 || sum > 1) {
				t.Errorf("SecretWays(%d, %v, _) adds up to %d", need, l, sum)
			}
		}
	}
}

// Section of SecretWays: -1 if need, the list or the secret is not valid.
func TestSecretWaysOfInvalidArgumentsIsMinusOne(t *testing.T) {
	for _, l := range fewHeld() {
		for _, need := range slices.Concat(outsideNeeds(), []int{4, 5}) {
			for _, secret := range secrets() {
				checkWays(t, need, l, secret, -1)
			}
			checkWays(t, need, l, 23, -1)
		}
		for need := 1; need <= 3; need++ {
			for _, secret := range outsideField() {
				checkWays(t, need, l, secret, -1)
			}
		}
	}
	for _, l := range outsideHeld() {
		for need := -1; need <= 4; need++ {
			for _, secret := range []int{-1, 0, 1, 5, 22, 23} {
				checkWays(t, need, l, secret, -1)
			}
		}
	}
	for _, far := range []int{math.MinInt, math.MaxInt} {
		checkWays(t, far, []impl.Held{{Member: far, Share: far}}, far, -1)
	}
}

// P66: every set of members, of whom every set has wrong shares.
func TestSecretBadHasExactlyTheMembersWithWrongShares(t *testing.T) {
	for _, c := range crews() {
		p := polynomialOf(c)
		k := impl.Key{Need: c.need, Many: c.many, Good: []int{2, 5}, Commit: commitmentTo(p)}
		for _, members := range membersAmong(c, 0) {
			right := heldOf(p, members)
			for wronged := range 1 << len(members) {
				for added := 1; added < 23; added++ {
					l := slices.Clone(right)
					var want []int
					for i, member := range members {
						if wronged>>i&1 == 1 {
							l[i].Share = (l[i].Share + added) % 23
							want = append(want, member)
						}
					}
					checkHeldBad(t, k, l, want)
				}
			}
		}
	}
}

// P66: the shares that members have of a key are those of nobody to be reported.
func TestSecretBadReportsNobodyForTheSharesOfAKey(t *testing.T) {
	for _, c := range crews() {
		for _, k := range heldKeys(t, c) {
			for _, members := range membersAmong(c, 0) {
				checkHeldBad(t, k.key, heldAmong(k.held, members), nil)
			}
		}
	}
}

// P66, for members greater than Many: no share of theirs fits, although it is a value of the polynomial.
func TestSecretBadReportsMembersOutsideTheCommittee(t *testing.T) {
	for _, c := range crews() {
		p := polynomialOf(c)
		k := impl.Key{Need: c.need, Many: c.many, Good: []int{1}, Commit: commitmentTo(p)}
		for _, members := range memberSets() {
			outside := slices.DeleteFunc(slices.Clone(members), func(member int) bool { return member <= c.many })
			checkHeldBad(t, k, heldOf(p, members), outside)
		}
	}
}

// P66, by the function that the promise names, for keys and shares that have nothing to do with each other.
func TestSecretBadIsWhoseSharesDoNotSatisfyKeyFits(t *testing.T) {
	for _, c := range crews() {
		for _, k := range validKeys(c) {
			for _, l := range fewHeld() {
				var want []int
				for _, h := range l {
					if !impl.KeyFits(k, h.Member, h.Share) {
						want = append(want, h.Member)
					}
				}
				checkHeldBad(t, k, l, want)
			}
		}
	}
}

// P66, as values.
func TestSecretBadAtNamedValues(t *testing.T) {
	k := impl.Key{Need: 2, Many: 3, Good: []int{1}, Commit: []int{32, 37}}
	for _, c := range []struct{ members, shares, want []int }{
		{nil, nil, nil},
		{[]int{1, 2, 3}, []int{15, 2, 12}, nil},
		{[]int{1, 2, 3}, []int{15, 3, 12}, []int{2}},
		{[]int{1, 2, 3}, []int{14, 2, 11}, []int{1, 3}},
		{[]int{1, 2, 3}, []int{0, 0, 0}, []int{1, 2, 3}},
		{[]int{2}, []int{15}, []int{2}},
		{[]int{3}, []int{12}, nil},
		{[]int{3, 4}, []int{12, 22}, []int{4}},
		{[]int{1, 5}, []int{16, 9}, []int{1, 5}},
	} {
		checkHeldBad(t, k, heldBy(c.members, c.shares), c.want)
	}
}

// Section of SecretBad: empty for keys and lists that are not valid, although no share fits.
func TestSecretBadOfInvalidArgumentsIsEmpty(t *testing.T) {
	for _, c := range crews() {
		for _, k := range invalidKeys(c) {
			for _, l := range [][]impl.Held{nil, heldBy([]int{1}, []int{0}), heldBy(upTo(5), []int{7, 0, 22, 13, 1}), heldOf(polynomialOf(c), upTo(c.many))} {
				checkHeldBad(t, k, l, nil)
			}
		}
		k := keyBy(c, upTo(c.many))
		for _, l := range outsideHeld() {
			checkHeldBad(t, k, l, nil)
		}
	}
	checkHeldBad(t, impl.Key{}, nil, nil)
	checkHeldBad(t, impl.Key{}, heldBy([]int{1}, []int{0}), nil)
	for _, far := range []int{math.MinInt, math.MaxInt} {
		checkHeldBad(t, impl.Key{Need: far, Many: far, Good: []int{far}, Commit: []int{far}}, []impl.Held{{Member: far, Share: far}}, nil)
	}
}

// checkHeldUnchanged fails the test if the function changes the list or what lies behind its end.
func checkHeldUnchanged(t *testing.T, l []impl.Held, function func(l []impl.Held)) {
	t.Helper()
	whole := append(slices.Clone(l), impl.Held{Member: 91, Share: 92}, impl.Held{Member: 93, Share: 94})
	before := slices.Clone(whole)
	function(whole[:len(l)])
	if !slices.Equal(whole, before) {
		t.Errorf("%v became %v", before, whole)
	}
}

// General rules: arguments stay as they are, the shares behind the end included.
func TestSecretsChangeNoArgument(t *testing.T) {
	k := keyBy(crew{2, 3}, []int{1, 3})
	for _, l := range slices.Concat(fewHeld(), outsideHeld()) {
		checkHeldUnchanged(t, l, func(l []impl.Held) {
			impl.HeldOk(l)
			for need := 0; need <= 6; need++ {
				impl.SecretOf(need, l)
				impl.SecretWays(need, l, 5)
			}
			impl.SecretBad(k, l)
			impl.SecretBad(impl.Key{}, l)
		})
	}
}

// General rules: results are new memory, and the lists of keys stay as they are.
func TestSecretBadSharesNoMemory(t *testing.T) {
	lists := [][]impl.Held{nil, heldBy([]int{1}, []int{0}), heldBy([]int{5}, []int{22}), heldBy(upTo(5), []int{7, 0, 22, 13, 1}), heldBy([]int{2, 1}, []int{0, 0})}
	for _, c := range crews() {
		for _, k := range slices.Concat(validKeys(c), invalidKeys(c)) {
			for _, l := range lists {
				checkMemory(t, "SecretBad", func(given [][]int) []int {
					return impl.SecretBad(impl.Key{Need: k.Need, Many: k.Many, Good: given[0], Commit: given[1]}, l)
				}, k.Good, k.Commit)
			}
		}
	}
}

// General rules: nothing is kept from one call to the next, whatever was asked in between.
func TestSecretsKeepNoState(t *testing.T) {
	p := []int{22, 0, 7}
	l := heldOf(p, []int{1, 3, 4, 5})
	k := impl.Key{Need: 3, Many: 5, Good: []int{1, 2, 3}, Commit: commitmentTo(p)}
	for range 20 {
		checkNoSecret(t, 0, l)
		checkSecret(t, 3, l, 22)
		checkWays(t, 3, l, 23, -1)
		checkWays(t, 3, l, 22, 1)
		checkWays(t, 3, l[:1], 22, 23)
		checkWays(t, 3, nil, 22, 529)
		checkWays(t, 3, l, 21, 0)
		checkHeldBad(t, k, heldWith(l, 2, 0), []int{4})
		checkHeldBad(t, k, l, nil)
	}
}

// LANGUAGE, rule 6: calls at the same time do not count for each other.
func TestSecretWaysAtTheSameTimeAreTheSame(t *testing.T) {
	l := heldOf([]int{9, 0, 7}, upTo(5))
	var callers sync.WaitGroup
	for range 8 {
		callers.Go(func() {
			for count := range 6 {
				for secret := range 23 {
					want := []int{529, 23, 1, 0, 0, 0}[count]
					if secret == 9 && count >= 3 {
						want = 1
					}
					if ways := impl.SecretWays(3, l[:count], secret); ways != want {
						t.Errorf("SecretWays(3, %v, %d) is %d, not %d", l[:count], secret, ways, want)
					}
				}
			}
		})
	}
	callers.Wait()
}

// LANGUAGE, rule 6: no goroutine is left waiting once a call has returned.
func TestSecretWaysLeavesNoGoroutineBehind(t *testing.T) {
	before := runtime.NumGoroutine()
	for need := range 5 {
		for _, l := range slices.Concat(fewHeld(), outsideHeld()) {
			impl.SecretWays(need, l, 22)
			impl.SecretWays(need, l, 23)
		}
	}
	for range 1_000_000 {
		if runtime.NumGoroutine() <= before {
			return
		}
		runtime.Gosched()
	}
	t.Errorf("there are %d goroutines, after %d", runtime.NumGoroutine(), before)
}
