package tests

import (
	"fmt"
	"math"
	"slices"
	"testing"

	"loop.example/wardstaff/impl"
)

// crewPair is a committee with the one to which it hands a key on.
type crewPair struct{ old, next crew }

// crewPairs lists every committee with every other and with itself.
func crewPairs() []crewPair {
	var list []crewPair
	for _, old := range crews() {
		for _, next := range crews() {
			list = append(list, crewPair{old, next})
		}
	}
	return list
}

// line0 lists the coefficients that weight the values at the places to give the value at 0, made without the program.
func line0(places []int) []int {
	var list []int
	for i, place := range places {
		product, divisor := 1, 1
		for j, other := range places {
			if j != i {
				product = product * (23 - other) % 23
				divisor = divisor * (23 + place - other) % 23
			}
		}
		weight := 0
		for weight*divisor%23 != product {
			weight++
		}
		list = append(list, weight)
	}
	return list
}

// times multiplies the polynomial.
func times(p []int, factor int) []int {
	var list []int
	for _, n := range p {
		list = append(list, n*factor%23)
	}
	return list
}

// handPolynomial is what the dealer deals to the new committee where its share is the value of p.
func handPolynomial(p []int, next crew, from int) []int {
	return with(polynomialBy(from, next.need), 0, valueAt(p, from))
}

// handDeal hands the dealer's share of p on, made without the program.
func handDeal(p []int, next crew, from int) impl.Deal {
	return rightDeal(from, handPolynomial(p, next, from), next.many)
}

func handDeals(p []int, next crew, dealers ...int) []impl.Deal {
	var list []impl.Deal
	for _, from := range dealers {
		list = append(list, handDeal(p, next, from))
	}
	return list
}

// handedPolynomial is what the new committee has where the deals of the dealers are selected.
func handedPolynomial(p []int, next crew, dealers []int) []int {
	sum := make([]int, next.need)
	for i, weight := range line0(dealers) {
		sum = plus(sum, times(handPolynomial(p, next, dealers[i]), weight))
	}
	return sum
}

// handedBy is the key that the new committee has where the deals of the dealers are selected, with the shares of all members, made without the program.
func handedBy(p []int, next crew, dealers []int) heldKey {
	return heldKeyOf(next, dealers, handedPolynomial(p, next, dealers))
}

func checkHandOk(t *testing.T, k impl.Key, d impl.Deal, next crew, want bool) {
	t.Helper()
	if impl.HandOk(k, d, next.need, next.many) != want {
		t.Errorf("HandOk(%v, %v, %d, %d) is not %v", k, d, next.need, next.many, want)
	}
}

// handedKey fails the test if there is no such key.
func handedKey(t *testing.T, k impl.Key, deals []impl.Deal, next crew) impl.Key {
	t.Helper()
	handed, ok := impl.HandKey(k, deals, next.need, next.many)
	if !ok {
		t.Fatalf("HandKey(%v, %v, %d, %d) failed", k, deals, next.need, next.many)
	}
	return handed
}

// handedShares fails the test if some member of the new committee has no share.
func handedShares(t *testing.T, k impl.Key, deals []impl.Deal, next crew) []impl.Held {
	t.Helper()
	var list []impl.Held
	for member := 1; member <= next.many; member++ {
		h, ok := impl.HandShare(k, deals, next.need, next.many, member)
		if !ok {
			t.Fatalf("HandShare(%v, %v, %d, %d, %d) failed", k, deals, next.need, next.many, member)
		}
		list = append(list, h)
	}
	return list
}

// checkHanded fails the test if the deals do not make the other key of the one, with the shares of all members.
func checkHanded(t *testing.T, k impl.Key, deals []impl.Deal, next crew, want heldKey) {
	t.Helper()
	if handed := handedKey(t, k, deals, next); !sameKey(handed, want.key) {
		t.Errorf("HandKey(%v, %v, %d, %d) is %v, not %v", k, deals, next.need, next.many, handed, want.key)
	}
	if held := handedShares(t, k, deals, next); !slices.Equal(held, want.held) {
		t.Errorf("HandShare(%v, %v, %d, %d, _) are %v, not %v", k, deals, next.need, next.many, held, want.held)
	}
}

func checkNoHandShare(t *testing.T, k impl.Key, deals []impl.Deal, next crew, member int) {
	t.Helper()
	if h, ok := impl.HandShare(k, deals, next.need, next.many, member); ok || h != (impl.Held{}) {
		t.Errorf("HandShare(%v, %v, %d, %d, %d) is %v, %v", k, deals, next.need, next.many, member, h, ok)
	}
}

// checkNotHanded fails the test if the deals hand the key or a share on.
func checkNotHanded(t *testing.T, k impl.Key, deals []impl.Deal, next crew) {
	t.Helper()
	if handed, ok := impl.HandKey(k, deals, next.need, next.many); ok || !sameKey(handed, impl.Key{}) {
		t.Errorf("HandKey(%v, %v, %d, %d) is %v, %v", k, deals, next.need, next.many, handed, ok)
	}
	for _, member := range []int{0, 1, 2, next.many} {
		checkNoHandShare(t, k, deals, next, member)
	}
}

// made lets the holders of the shares hand them on by the program.
func made(t *testing.T, held []impl.Held, next crew, seed int) []impl.Deal {
	t.Helper()
	var list []impl.Deal
	for i, h := range held {
		d, ok := impl.HandMake(h, next.need, next.many, (seed+37*i)%1000)
		if !ok {
			t.Fatalf("HandMake(%v, %d, %d, _) failed", h, next.need, next.many)
		}
		list = append(list, d)
	}
	return list
}

// P82
func TestHandMakeIsDealMakeOfTheShare(t *testing.T) {
	for _, next := range crews() {
		for member := 1; member <= 5; member++ {
			for share := range 23 {
				for _, seed := range seeds() {
					h := impl.Held{Member: member, Share: share}
					d, ok := impl.HandMake(h, next.need, next.many, seed)
					if !ok || !sameDeal(d, dealt(t, member, next, share, seed)) {
						t.Errorf("HandMake(%v, %d, %d, %d) is %v, %v", h, next.need, next.many, seed, d, ok)
					}
				}
			}
		}
	}
}

// P82, as values.
func TestHandMakeAtNamedValues(t *testing.T) {
	for _, c := range []struct {
		crew        crew
		share, seed int
		want        impl.Deal
	}{
		{crew{2, 3}, 5, 10, impl.Deal{From: 1, Commit: []int{32, 37}, Shares: []int{15, 2, 12}}},
		{crew{1, 1}, 0, 0, impl.Deal{From: 5, Commit: []int{1}, Shares: []int{0}}},
		{crew{1, 5}, 22, 999, impl.Deal{From: 3, Commit: []int{24}, Shares: []int{22, 22, 22, 22, 22}}},
		{crew{3, 4}, 22, 0, impl.Deal{From: 5, Commit: []int{24, 8, 7}, Shares: []int{14, 7, 1, 19}}},
		{crew{5, 5}, 0, 23, impl.Deal{From: 4, Commit: []int{1, 21, 36, 42, 34}, Shares: []int{18, 15, 21, 4, 8}}},
	} {
		h := impl.Held{Member: c.want.From, Share: c.share}
		if d, ok := impl.HandMake(h, c.crew.need, c.crew.many, c.seed); !ok || !sameDeal(d, c.want) {
			t.Errorf("HandMake(%v, %v, %d) is %v, %v, not %v", h, c.crew, c.seed, d, ok, c.want)
		}
	}
}

// Section of HandMake: false and the zero value where DealMake fails.
func TestHandMakeOfInvalidArgumentsFails(t *testing.T) {
	check := func(h impl.Held, next crew, seed int) {
		t.Helper()
		d, ok := impl.HandMake(h, next.need, next.many, seed)
		if ok || !sameDeal(d, impl.Deal{}) {
			t.Errorf("HandMake(%v, %d, %d, %d) is %v, %v", h, next.need, next.many, seed, d, ok)
		}
	}
	for _, next := range crews() {
		for _, member := range outsideMembers() {
			check(impl.Held{Member: member, Share: 5}, next, 10)
		}
		for _, share := range outsideField() {
			check(impl.Held{Member: 1, Share: share}, next, 10)
		}
		for _, seed := range outsideSeeds() {
			check(impl.Held{Member: 1}, next, seed)
			check(impl.Held{Member: 5, Share: 22}, next, seed)
		}
		check(impl.Held{}, next, 0)
	}
	for _, bad := range outsideCrews() {
		for _, seed := range []int{0, 10, 999, 1000} {
			check(impl.Held{Member: 1, Share: 5}, bad, seed)
			check(impl.Held{Member: 5, Share: 23}, bad, seed)
		}
	}
	for _, far := range []int{math.MinInt, math.MaxInt} {
		check(impl.Held{Member: far, Share: far}, crew{far, far}, far)
	}
}

// P91
func TestHandMakeCommitsToTheShareAndEnoughOfItsSharesGiveIt(t *testing.T) {
	for _, next := range crews() {
		for share := range 23 {
			for _, seed := range seeds() {
				d := made(t, []impl.Held{{Member: 1 + share%5, Share: share}}, next, seed)[0]
				if d.Commit[0] != impl.GroupOf(share) {
					t.Errorf("%v does not commit to %d", d, share)
				}
				held := heldBy(upTo(next.many), d.Shares)
				for _, members := range ascendingMembers(next) {
					if got := weighted(d.Shares, members, 0); got != share {
						t.Errorf("the shares of %v in %v give %d, not %d", members, d, got, share)
					}
					checkSecret(t, next.need, heldAmong(held, members), share)
				}
			}
		}
	}
}

// P83: each dealer and each number that is dealt.
func TestHandOkIsTrueIfAMemberDealsItsShare(t *testing.T) {
	for _, pair := range crewPairs() {
		p := polynomialOf(pair.old)
		k := heldKeyOf(pair.old, upTo(pair.old.many), p).key
		for from := 1; from <= 5; from++ {
			for number := range 23 {
				d := rightDeal(from, with(polynomialBy(from, pair.next.need), 0, number), pair.next.many)
				checkHandOk(t, k, d, pair.next, from <= pair.old.many && number == valueAt(p, from))
			}
		}
	}
}

// P83: each set of wronged members, of the deal of the share and of that of another number.
func TestHandOkIsFalseIfAMemberIsWronged(t *testing.T) {
	for _, pair := range crewPairs() {
		p := polynomialOf(pair.old)
		k := heldKeyOf(pair.old, []int{5}, p).key
		for from := 1; from <= pair.old.many; from++ {
			right := handDeal(p, pair.next, from)
			other := rightDeal(from, with(polynomialBy(from, pair.next.need), 0, (valueAt(p, from)+1)%23), pair.next.many)
			for wronged := range 1 << pair.next.many {
				checkHandOk(t, k, wrongDeal(right, wronged, 1+wronged%22), pair.next, wronged == 0)
				checkHandOk(t, k, wrongDeal(other, wronged, 1+wronged%22), pair.next, false)
			}
		}
	}
}

// P83, by the functions that the promise names.
func TestHandOkIsWhatDealOkCommitAtAndDealBadSay(t *testing.T) {
	for _, pair := range crewPairs() {
		old, next := pair.old, pair.next
		for _, k := range refreshables(old) {
			right := handDeal(k.p, next, 1)
			for _, commit := range append(fewCommitments(), right.Commit, make([]int, next.need)) {
				for from := 0; from <= 6; from++ {
					for _, shares := range [][]int{{}, right.Shares, {22, 22, 22}} {
						d := impl.Deal{From: from, Commit: commit, Shares: shares}
						want := impl.DealOk(d, next.need, next.many) && from <= old.many
						want = want && commit[0] == impl.CommitAt(k.key.Commit, from) && len(impl.DealBad(d, next.need, next.many)) == 0
						checkHandOk(t, k.key, d, next, want)
					}
				}
			}
		}
	}
}

// P83: any dealers can have made the key, and the dealer need be neither one of them nor of the new committee.
func TestHandOkIsTrueForEveryKeyOfTheCommittee(t *testing.T) {
	for _, pair := range crewPairs() {
		for i, p := range keyPolynomials(pair.old) {
			for _, good := range [][]int{nil, {}, {1}, {5}, {2, 3, 4}, upTo(5)} {
				k := heldKeyOf(pair.old, good, p[:pair.old.need])
				for _, d := range made(t, k.held, pair.next, 100*i) {
					checkHandOk(t, k.key, d, pair.next, true)
				}
				for _, d := range handDeals(p[:pair.old.need], pair.next, upTo(pair.old.many)...) {
					checkHandOk(t, k.key, d, pair.next, true)
				}
			}
		}
	}
}

// P83: every other number in the place of one share.
func TestHandOkIsFalseForAnyWrongShare(t *testing.T) {
	for i, pair := range crewPairs() {
		p := polynomialOf(pair.old)
		k := heldKeyOf(pair.old, upTo(pair.old.many), p).key
		from := 1 + i%pair.old.many
		d := handDeal(p, pair.next, from)
		for j, share := range d.Shares {
			for _, wrong := range wrongShares(share) {
				checkHandOk(t, k, impl.Deal{From: from, Commit: d.Commit, Shares: with(d.Shares, j, wrong)}, pair.next, false)
			}
		}
	}
}

// P83: every other group element in the place of one element of the commitment.
func TestHandOkIsFalseForAnyWrongCommitment(t *testing.T) {
	for i, pair := range crewPairs() {
		p := polynomialOf(pair.old)
		k := heldKeyOf(pair.old, upTo(pair.old.many), p).key
		from := 1 + i%pair.old.many
		d := handDeal(p, pair.next, from)
		for j, right := range d.Commit {
			for _, wrong := range groupPowers() {
				changed := impl.Deal{From: from, Commit: with(d.Commit, j, wrong), Shares: d.Shares}
				checkHandOk(t, k, changed, pair.next, wrong == right)
			}
		}
	}
}

// P83: the share of another member is another number, unless both are the same.
func TestHandOkIsFalseForTheShareOfAnotherMember(t *testing.T) {
	for _, pair := range crewPairs() {
		for _, k := range refreshables(pair.old) {
			for from := 1; from <= 5; from++ {
				for other := 1; other <= 5; other++ {
					d := handDeal(k.p, pair.next, other)
					d.From = from
					checkHandOk(t, k.key, d, pair.next, from <= pair.old.many && valueAt(k.p, from) == valueAt(k.p, other))
				}
			}
		}
	}
}

// P83: a deal is well formed for one committee alone, the old one or any other.
func TestADealToAnotherCommitteeHandsNothingOn(t *testing.T) {
	for _, pair := range crewPairs() {
		p := polynomialOf(pair.old)
		k := heldKeyOf(pair.old, upTo(pair.old.many), p).key
		for _, other := range crews() {
			deals := handDeals(p, other, upTo(pair.old.many)...)
			for _, d := range deals {
				checkHandOk(t, k, d, pair.next, other == pair.next)
			}
			if other != pair.next {
				checkNotHanded(t, k, deals, pair.next)
			}
		}
	}
}

// misshapedHandDeals lists deals of the first member's share with one thing wrong each: the dealer, the commitment or the shares.
func misshapedHandDeals(p []int, next crew) []impl.Deal {
	d := handDeal(p, next, 1)
	var list []impl.Deal
	add := func(from int, commit, shares []int) {
		list = append(list, impl.Deal{From: from, Commit: commit, Shares: shares})
	}
	for _, from := range outsideMembers() {
		add(from, d.Commit, d.Shares)
	}
	for _, commit := range [][]int{nil, {}, d.Commit[:next.need-1], append(slices.Clone(d.Commit), 1), append(slices.Clone(d.Commit), 24), {1, 1, 1, 1, 1, 1}, make([]int, next.need)} {
		add(1, commit, d.Shares)
	}
	for _, shares := range [][]int{nil, {}, d.Shares[:next.many-1], append(slices.Clone(d.Shares), valueAt(handPolynomial(p, next, 1), next.many+1)), append(slices.Clone(d.Shares), 0)} {
		add(1, d.Commit, shares)
	}
	for i := range d.Commit {
		for _, bad := range outsideGroup() {
			add(1, with(d.Commit, i, bad), d.Shares)
		}
	}
	for i := range d.Shares {
		for _, bad := range outsideField() {
			add(1, d.Commit, with(d.Shares, i, bad))
		}
	}
	for _, far := range []int{math.MinInt, math.MaxInt} {
		add(far, []int{far}, []int{far})
	}
	return append(list, impl.Deal{})
}

// P83 and P87: a deal that is not well formed hands nothing on, and those of the others count as without it.
func TestADealNotWellFormedHandsNothingOn(t *testing.T) {
	for _, pair := range crewPairs() {
		old, next := pair.old, pair.next
		p := polynomialOf(old)
		k := heldKeyOf(old, upTo(old.many), p).key
		others := handDeals(p, next, upTo(old.many)[1:]...)
		for _, d := range misshapedHandDeals(p, next) {
			checkHandOk(t, k, d, next, false)
			deals := append([]impl.Deal{d}, others...)
			if d.From < 2 && old.need < old.many { // ordered, and the others are enough
				checkHanded(t, k, deals, next, handedBy(p, next, upTo(old.need + 1)[1:]))
			} else {
				checkNotHanded(t, k, deals, next)
			}
		}
	}
}

// Sections of HandOk, HandKey and HandShare: an invalid key is not handed on.
func TestAnInvalidKeyIsNotHandedOn(t *testing.T) {
	check := func(k impl.Key, deals []impl.Deal, next crew) {
		t.Helper()
		for _, d := range deals {
			checkHandOk(t, k, d, next, false)
		}
		checkNotHanded(t, k, deals, next)
		checkNotHanded(t, k, nil, next)
		checkNotHanded(t, k, []impl.Deal{}, next)
	}
	nexts := crews()
	for _, old := range crews() {
		for i, k := range invalidKeys(old) {
			next := nexts[i%len(nexts)]
			check(k, handDeals(polynomialOf(old), next, upTo(old.many)...), next)
		}
	}
	for i, bad := range outsideCrews() {
		if bad.need >= 0 && bad.need <= 6 && bad.many >= 0 && bad.many <= 6 { // a commitment that would fit
			p, next := []int{22, 0, 7, 13, 1, 4}[:bad.need], nexts[i%len(nexts)]
			k := impl.Key{Need: bad.need, Many: bad.many, Good: []int{1}, Commit: commitmentTo(p)}
			check(k, handDeals(append(slices.Clone(p), 0), next, 1, 2, 3, 4, 5), next)
		}
	}
	check(impl.Key{}, []impl.Deal{{}}, crew{1, 1})
	for _, far := range []int{math.MinInt, math.MaxInt} {
		k := impl.Key{Need: far, Many: far, Good: []int{far}, Commit: []int{far}}
		check(k, []impl.Deal{{From: far, Commit: []int{far}, Shares: []int{far}}}, crew{far, far})
		check(k, handDeals([]int{5}, crew{1, 1}, 1), crew{1, 1})
	}
}

// Sections of HandOk, HandKey and HandShare: nothing is handed on to a committee that is not valid, whose deals have as many elements and shares as it says.
func TestNothingIsHandedOnToAnInvalidCommittee(t *testing.T) {
	for _, old := range crews() {
		p := polynomialOf(old)
		k := heldKeyOf(old, upTo(old.many), p).key
		for _, bad := range outsideCrews() {
			lists := [][]impl.Deal{nil, make([]impl.Deal, 1), handDeals(p, old, upTo(old.many)...)}
			if bad.need >= 0 && bad.need <= 6 && bad.many >= 0 && bad.many <= 6 {
				var fitting []impl.Deal
				for from := 1; from <= old.many; from++ {
					q := []int{valueAt(p, from), 0, 7, 13, 1, 4}[:bad.need]
					fitting = append(fitting, impl.Deal{From: from, Commit: commitmentTo(q), Shares: valuesUpTo(append(slices.Clone(q), 0), bad.many)})
				}
				lists = append(lists, fitting)
			}
			for _, deals := range lists {
				for _, d := range deals {
					checkHandOk(t, k, d, bad, false)
				}
				checkNotHanded(t, k, deals, bad)
			}
		}
	}
}

// P86: every set of dealers: as many as the key needs, fewer and more, of which the first count.
func TestHandKeyNeedsAsManyDealsAsTheKey(t *testing.T) {
	for _, pair := range crewPairs() {
		old, next := pair.old, pair.next
		p := polynomialOf(old)
		k := heldKeyOf(old, upTo(old.many), p).key
		for set := range 1 << old.many {
			dealers := inSet(set)
			deals := handDeals(p, next, dealers...)
			if len(dealers) < old.need {
				checkNotHanded(t, k, deals, next)
			} else {
				checkHanded(t, k, deals, next, handedBy(p, next, dealers[:old.need]))
			}
		}
	}
}

// states of the deal by which one dealer hands its share on.
const (
	handNone = iota
	handRight
	handOther
	handSpoilt
	handMisshaped
)

// handScene makes the deals of which that of dealer i+1 is in the state states[i], and lists the dealers of those that hand k on.
func handScene(p []int, pair crewPair, states []int) (deals []impl.Deal, right []int) {
	next := pair.next
	for i, state := range states {
		from := i + 1
		d := handDeal(p, next, from)
		switch state {
		case handNone:
			continue
		case handOther:
			d = rightDeal(from, with(polynomialBy(from, next.need), 0, (valueAt(p, from)+1+i*5)%23), next.many)
		case handSpoilt:
			d = wrongDeal(d, 1<<(i%next.many), 1+i*5)
		case handMisshaped:
			d.Shares = append(d.Shares, 0)
		}
		if state == handRight && from <= pair.old.many {
			right = append(right, from)
		}
		deals = append(deals, d)
	}
	return deals, right
}

// P86 and P87: the states of all dealers of the committee, and of one that is not of it, in every combination.
func TestHandKeySelectsTheFirstDealsThatSatisfyHandOk(t *testing.T) {
	nexts := crews()
	for _, old := range crews() {
		p := polynomialOf(old)
		k := heldKeyOf(old, upTo(old.many), p).key
		for i, states := range tuples([]int{handNone, handRight, handOther, handSpoilt, handMisshaped}, min(old.many+1, 5)) {
			next := nexts[i%len(nexts)]
			deals, right := handScene(p, crewPair{old, next}, states)
			alone := slices.DeleteFunc(slices.Clone(deals), func(d impl.Deal) bool { return !slices.Contains(right, d.From) })
			for _, d := range deals {
				checkHandOk(t, k, d, next, slices.Contains(right, d.From))
			}
			if len(right) < old.need {
				checkNotHanded(t, k, deals, next)
				checkNotHanded(t, k, alone, next)
				continue
			}
			want := handedBy(p, next, right[:old.need])
			checkHanded(t, k, deals, next, want)
			checkHanded(t, k, alone, next, want)
		}
	}
}

// P87: a deal that is left out ahead of, among and behind those that are selected, whatever is wrong with it.
func TestADealThatIsLeftOutChangesNothing(t *testing.T) {
	for _, old := range crews() {
		for _, next := range crews() {
			p := polynomialOf(old)
			k := heldKeyOf(old, upTo(old.many), p).key
			for left := 1; left <= old.many && old.need < old.many; left++ {
				others := slices.DeleteFunc(upTo(old.many), func(n int) bool { return n == left })
				want := handedBy(p, next, others[:old.need])
				right := handDeal(p, next, left)
				for _, d := range append(spoiledDeals(next, left),
					wrongDeal(right, 1, 1), wrongDeal(right, 1<<(next.many-1), 22), wrongDeal(right, 31, 7),
					rightDeal(left, with(polynomialBy(left, next.need), 0, (valueAt(p, left)+22)%23), next.many),
					impl.Deal{From: left, Commit: with(right.Commit, next.need-1, right.Commit[next.need-1]*2%47), Shares: right.Shares},
				) {
					deals := handDeals(p, next, upTo(old.many)...)
					deals[left-1] = d
					checkHanded(t, k, deals, next, want)
				}
			}
		}
	}
}

// P86: dealers that no committee has count as little as those that are not of this one, but they are ordered all the same.
func TestHandKeyAllowsDealersOfNoCommittee(t *testing.T) {
	for _, pair := range crewPairs() {
		old, next := pair.old, pair.next
		p := polynomialOf(old)
		k := heldKeyOf(old, upTo(old.many), p).key
		dealers := upTo(min(old.many, 3))
		for _, low := range []int{0, -1, math.MinInt} {
			for _, high := range []int{6, 7, math.MaxInt} {
				right := handDeals(p, next, dealers...)
				deals := slices.Concat([]impl.Deal{{From: low}}, right, []impl.Deal{{From: high, Commit: right[0].Commit, Shares: right[0].Shares}})
				if len(dealers) < old.need {
					checkNotHanded(t, k, deals, next)
				} else {
					checkHanded(t, k, deals, next, handedBy(p, next, dealers[:old.need]))
				}
				slices.Reverse(deals)
				checkNotHanded(t, k, deals, next)
				checkNotHanded(t, k, slices.Concat(right, []impl.Deal{{From: low}}), next)
				checkNotHanded(t, k, slices.Concat([]impl.Deal{{From: high}}, right), next)
				checkNotHanded(t, k, slices.Concat(right, []impl.Deal{{From: high}, {From: high}}), next)
			}
		}
	}
}

// P86: the dealers in every order, repeated ones included.
func TestHandKeyFailsIfTheDealsAreNotOrdered(t *testing.T) {
	nexts := crews()
	for _, old := range crews() {
		p := polynomialOf(old)
		k := heldKeyOf(old, upTo(old.many), p).key
		for length := 0; length <= 5; length++ {
			for i, dealers := range tuples(upTo(5), length) {
				next := nexts[i%len(nexts)]
				ordered := slices.IsSorted(dealers) && len(slices.Compact(slices.Clone(dealers))) == length
				counted := slices.DeleteFunc(slices.Clone(dealers), func(from int) bool { return from > old.many })
				deals := handDeals(p, next, dealers...)
				if !ordered || len(counted) < old.need {
					checkNotHanded(t, k, deals, next)
				} else {
					checkHanded(t, k, deals, next, handedBy(p, next, counted[:old.need]))
				}
			}
		}
	}
}

// P86: the order matters behind the selected deals as well, and of deals that are left out.
func TestHandKeyFailsIfDealsThatDoNotCountAreNotOrdered(t *testing.T) {
	for _, next := range crews() {
		k := heldKeyOf(crew{1, 5}, upTo(5), []int{22}).key
		right := handDeals([]int{22}, next, 1, 2, 3, 4, 5)
		for _, deals := range [][]impl.Deal{
			{right[0], right[2], right[1]},
			{right[0], right[1], right[1]},
			{right[0], {From: 3}, {From: 2}},
			{right[0], {From: 6}, {From: 6}},
			{{From: 0}, {From: 0}, right[0]},
			{{From: 0}, {From: -1}, right[0]},
			{{From: 1}, right[0]},
			{right[0], {From: 1}},
		} {
			checkNotHanded(t, k, deals, next)
		}
	}
}

// Section of HandKey: at most MemberMax deals.
func TestHandKeyOfTooManyDealsFails(t *testing.T) {
	for _, pair := range crewPairs() {
		old, next := pair.old, pair.next
		p := polynomialOf(old)
		k := heldKeyOf(old, upTo(old.many), p).key
		right := handDeals(p, next, 1, 2, 3, 4, 5)
		from := func(n int) impl.Deal {
			return impl.Deal{From: n, Commit: right[0].Commit, Shares: right[0].Shares}
		}
		for _, deals := range [][]impl.Deal{
			append(slices.Clone(right), from(6)),
			append(slices.Clone(right), from(5)),
			append(slices.Clone(right), from(6), from(math.MaxInt)),
			append([]impl.Deal{from(0)}, right...),
			append([]impl.Deal{from(math.MinInt), from(-1), from(0)}, right...),
			handDeals(p, next, 1, 1, 1, 1, 1, 1),
			make([]impl.Deal, 6),
			make([]impl.Deal, 100),
		} {
			checkNotHanded(t, k, deals, next)
		}
		checkHanded(t, k, right, next, handedBy(p, next, upTo(old.need)))
	}
}

// P84, P85 and P88: key and shares are those of the weighted sum of the polynomials, of which the first coefficient is the secret still.
func TestAKeyIsHandedOnAsItsSecretIs(t *testing.T) {
	for _, pair := range crewPairs() {
		for _, k := range refreshables(pair.old) {
			dealers := upTo(pair.old.many)
			want := handedBy(k.p, pair.next, dealers[:pair.old.need])
			if want.secret != k.secret {
				t.Fatalf("the secret %d of %v becomes %d", k.secret, k.p, want.secret)
			}
			checkHanded(t, k.key, handDeals(k.p, pair.next, dealers...), pair.next, want)
		}
	}
}

// P84 to P88, as values: the members of a key of 5+10x deal 15+x, 2 and 12+2x.
func TestHandingOnAtNamedValues(t *testing.T) {
	k := impl.Key{Need: 2, Many: 3, Good: []int{1}, Commit: []int{32, 37}}
	first := impl.Deal{From: 1, Commit: []int{9, 2}, Shares: []int{16, 17, 18}}
	second := impl.Deal{From: 2, Commit: []int{4, 1}, Shares: []int{2, 2, 2}}
	third := impl.Deal{From: 3, Commit: []int{7, 4}, Shares: []int{14, 16, 18}}
	spoilt := impl.Deal{From: 1, Commit: []int{9, 2}, Shares: []int{16, 17, 19}}
	other := impl.Deal{From: 2, Commit: []int{2, 1}, Shares: []int{1, 1, 1}}
	for _, c := range []struct {
		deals                []impl.Deal
		good, commit, shares []int
	}{
		{[]impl.Deal{first, second}, []int{1, 2}, []int{32, 4}, []int{7, 9, 11}},
		{[]impl.Deal{first, second, third}, []int{1, 2}, []int{32, 4}, []int{7, 9, 11}},
		{[]impl.Deal{second, third}, []int{2, 3}, []int{32, 3}, []int{1, 20, 16}},
		{[]impl.Deal{spoilt, second, third}, []int{2, 3}, []int{32, 3}, []int{1, 20, 16}},
		{[]impl.Deal{first, third}, []int{1, 3}, []int{32, 7}, []int{17, 6, 18}},
		{[]impl.Deal{first, other, third}, []int{1, 3}, []int{32, 7}, []int{17, 6, 18}},
		{[]impl.Deal{{}, first, third}, []int{1, 3}, []int{32, 7}, []int{17, 6, 18}},
	} {
		want := impl.Key{Need: 2, Many: 3, Good: c.good, Commit: c.commit}
		checkHanded(t, k, c.deals, crew{2, 3}, heldKey{want, heldBy(upTo(3), c.shares), 5})
	}
	for _, deals := range [][]impl.Deal{nil, {first}, {spoilt, second}, {spoilt, other, third}, {second, first}, {first, second, second}} {
		checkNotHanded(t, k, deals, crew{2, 3})
	}
}

// P84 to P88, as values, to a committee that needs one member and from one that does.
func TestHandingOnToFewerAndToMoreAtNamedValues(t *testing.T) {
	many := impl.Key{Need: 2, Many: 3, Commit: []int{32, 37}}
	single := impl.Key{Need: 1, Many: 1, Commit: []int{32}}
	constant := func(from, share int) impl.Deal {
		return impl.Deal{From: from, Commit: []int{impl.GroupOf(share)}, Shares: []int{share, share}}
	}
	want := heldKey{impl.Key{Need: 1, Many: 2, Good: []int{1, 3}, Commit: []int{32}}, heldBy(upTo(2), []int{5, 5}), 5}
	checkHanded(t, many, []impl.Deal{constant(1, 15), constant(3, 12)}, crew{1, 2}, want)
	deal := impl.Deal{From: 1, Commit: []int{32, 37}, Shares: []int{15, 2, 12}}
	want = heldKey{impl.Key{Need: 2, Many: 3, Good: []int{1}, Commit: []int{32, 37}}, heldBy(upTo(3), []int{15, 2, 12}), 5}
	checkHanded(t, single, []impl.Deal{deal}, crew{2, 3}, want)
}

// P84 and P85, by the functions that the promises name, for keys that a committee made.
func TestAKeyHandedOnHasTheSamePublicKey(t *testing.T) {
	for _, old := range crews() {
		for i, k := range heldKeys(t, old) {
			for j, next := range crews() {
				if old.many == 5 && i%15 != j { // of the many keys of five members, each goes to one committee
					continue
				}
				deals := made(t, k.held, next, 10*i)
				handed := handedKey(t, k.key, deals, next)
				if impl.KeyPub(handed) != impl.KeyPub(k.key) || handed.Need != next.need || handed.Many != next.many || !impl.KeyOk(handed) {
					t.Errorf("HandKey(%v, %v, %v) is %v", k.key, deals, next, handed)
				}
				if !slices.Equal(handed.Good, upTo(old.need)) {
					t.Errorf("the dealers of %v are not the first of %v", handed, deals)
				}
				held := handedShares(t, k.key, deals, next)
				for member, h := range held {
					if h.Member != member+1 || !impl.KeyFits(handed, h.Member, h.Share) {
						t.Errorf("%v is no share of %v", h, handed)
					}
				}
				for _, members := range membersAmong(next, next.need) {
					checkSecret(t, next.need, heldAmong(held, members), k.secret)
				}
			}
		}
	}
}

// P85: in the new committee, each share is the only one that fits.
func TestExactlyOneShareFitsEachNewMember(t *testing.T) {
	for _, pair := range crewPairs() {
		for _, k := range refreshables(pair.old) {
			deals := handDeals(k.p, pair.next, upTo(pair.old.many)...)
			handed := handedKey(t, k.key, deals, pair.next)
			for _, h := range handedShares(t, k.key, deals, pair.next) {
				for share := range 23 {
					if impl.KeyFits(handed, h.Member, share) != (share == h.Share) {
						t.Errorf("the share %d of member %d, not %d, fits %v", share, h.Member, h.Share, handed)
					}
				}
			}
		}
	}
}

// selections lists the ascending lists of as many dealers as the committee needs.
func selections(old crew) [][]int {
	return slices.DeleteFunc(membersAmong(old, old.need), func(dealers []int) bool { return len(dealers) > old.need })
}

// P84 and P88, by the functions that the promises and the section name, for every selection of dealers.
func TestHandKeyAndHandShareAreWeightedByPolyLine(t *testing.T) {
	for _, pair := range crewPairs() {
		k := refreshables(pair.old)[0]
		for _, dealers := range selections(pair.old) {
			deals := made(t, heldAmong(k.held, dealers), pair.next, 100*len(dealers))
			commit := make([]int, pair.next.need)
			for i := range commit {
				commit[i] = 1
			}
			shares := make([]int, pair.next.many)
			for i, weight := range impl.PolyLine(dealers, 0) {
				for j, n := range deals[i].Commit {
					commit[j] = impl.GroupMul(commit[j], impl.GroupPow(n, weight))
				}
				for j, n := range deals[i].Shares {
					shares[j] = impl.FieldSum(shares[j], impl.FieldMul(weight, n))
				}
			}
			want := impl.Key{Need: pair.next.need, Many: pair.next.many, Good: dealers, Commit: commit}
			checkHanded(t, k.key, deals, pair.next, heldKey{want, heldBy(upTo(pair.next.many), shares), k.secret})
		}
	}
}

// P89: of every set of dealers, the first is taken away; the key is handed on if the others are enough.
func TestWithoutTheFirstSelectedDealThePublicKeyIsTheSame(t *testing.T) {
	for _, pair := range crewPairs() {
		old, next := pair.old, pair.next
		for _, k := range refreshables(old)[:2] {
			for set := 1; set < 1<<old.many; set++ {
				deals := made(t, heldAmong(k.held, inSet(set)), next, set)
				without, ok := impl.HandKey(k.key, deals[1:], next.need, next.many)
				if ok != (len(deals) > old.need) {
					t.Errorf("HandKey(%v, %v, %v) is %v, %v", k.key, deals[1:], next, without, ok)
				}
				if !ok {
					checkNotHanded(t, k.key, deals[1:], next)
					continue
				}
				first := handedKey(t, k.key, deals, next)
				if impl.KeyPub(without) != impl.KeyPub(k.key) || impl.KeyPub(first) != impl.KeyPub(k.key) {
					t.Errorf("%v becomes %v, and %v without the first deal", k.key, first, without)
				}
				if !slices.Equal(without.Good, inSet(set)[1:old.need+1]) {
					t.Errorf("the dealers of %v are not the next of %v", without, inSet(set))
				}
			}
		}
	}
}

// P90: from each committee to each and then to each, the first one included.
func TestAKeyHandedOnTwiceHasTheSamePublicKey(t *testing.T) {
	for i, pair := range crewPairs() {
		k := refreshables(pair.old)[i%4]
		deals := made(t, k.held, pair.next, i)
		once := handedKey(t, k.key, deals, pair.next)
		held := handedShares(t, k.key, deals, pair.next)
		for _, last := range crews() {
			again := made(t, held, last, 2*i)
			twice := handedKey(t, once, again, last)
			if impl.KeyPub(twice) != impl.KeyPub(k.key) || impl.KeyPub(once) != impl.KeyPub(k.key) {
				t.Errorf("%v becomes %v and then %v", k.key, once, twice)
			}
			checkSecret(t, last.need, handedShares(t, once, again, last), k.secret)
			checkHeldBad(t, twice, handedShares(t, once, again, last), nil)
		}
	}
}

// P90: any members of the committee in between hand the key on again, by polynomials that the program did not make.
func TestAKeyIsHandedOnTwiceByAnyMembers(t *testing.T) {
	nexts := crews()
	for i, pair := range crewPairs() {
		last := nexts[i*7%len(nexts)]
		k := refreshables(pair.old)[0]
		for _, dealers := range selections(pair.old) {
			between := handedBy(k.p, pair.next, dealers)
			q := handedPolynomial(k.p, pair.next, dealers)
			checkHanded(t, k.key, handDeals(k.p, pair.next, dealers...), pair.next, between)
			for _, others := range selections(pair.next) {
				after := handedBy(q, last, others)
				checkHanded(t, between.key, handDeals(q, last, others...), last, after)
				if after.secret != k.secret {
					t.Errorf("the secret %d becomes %d", k.secret, after.secret)
				}
			}
		}
	}
}

// P90: the shares of the old committee hand the new key on no more, if they are other ones.
func TestTheOldCommitteeHandsTheNewKeyOnNoMore(t *testing.T) {
	for _, pair := range crewPairs() {
		p := polynomialOf(pair.old)
		q := handedPolynomial(p, pair.next, upTo(pair.old.need))
		k := heldKeyOf(pair.next, upTo(pair.old.need), q).key
		for from := 1; from <= 5; from++ {
			d := handDeal(p, pair.old, from)
			checkHandOk(t, k, d, pair.old, from <= pair.next.many && valueAt(p, from) == valueAt(q, from))
		}
	}
}

// P92
func TestAWrongHandedShareIsFoundOut(t *testing.T) {
	for _, pair := range crewPairs() {
		for _, k := range refreshables(pair.old) {
			deals := made(t, k.held, pair.next, 999-k.secret)
			handed := handedKey(t, k.key, deals, pair.next)
			held := handedShares(t, k.key, deals, pair.next)
			checkHeldBad(t, handed, held, nil)
			for i, h := range held {
				for added := 1; added < 23; added++ {
					checkHeldBad(t, handed, heldWith(held, i, (h.Share+added)%23), []int{i + 1})
				}
			}
		}
	}
}

// Section of HandShare: false for members that the new committee has not, although the old one may have them.
func TestHandShareOfAMemberOutsideTheNewCommitteeFails(t *testing.T) {
	for _, pair := range crewPairs() {
		p := polynomialOf(pair.old)
		k := heldKeyOf(pair.old, upTo(pair.old.many), p).key
		deals := handDeals(p, pair.next, upTo(pair.old.many)...)
		for _, member := range outsideMembersOf(pair.next) {
			checkNoHandShare(t, k, deals, pair.next, member)
		}
		for member := pair.next.many + 1; member <= 6; member++ {
			checkNoHandShare(t, k, deals, pair.next, member)
		}
	}
}

// P87: deals that are wrong by as much as others do not become right together.
func TestWrongHandDealsDoNotMakeUpForEachOther(t *testing.T) {
	for _, next := range crews() {
		p := []int{22, 7}
		k := heldKeyOf(crew{2, 2}, upTo(2), p).key
		for added := 1; added < 23; added++ {
			first := rightDeal(1, with(polynomialBy(1, next.need), 0, (valueAt(p, 1)+added)%23), next.many)
			second := rightDeal(2, with(polynomialBy(2, next.need), 0, (valueAt(p, 2)+2*added)%23), next.many) // 2 and -1 are the coefficients
			checkNotHanded(t, k, []impl.Deal{first, second}, next)
			right := handDeals(p, next, 1, 2)
			for member := range next.many {
				checkNotHanded(t, k, []impl.Deal{wrongDeal(right[0], 1<<member, added), wrongDeal(right[1], 1<<member, 2*added)}, next)
			}
		}
	}
}

// General rules: nothing is kept from one call to the next, whatever was asked in between.
func TestHandingOnKeepsNoState(t *testing.T) {
	old, next := crew{3, 5}, crew{2, 4}
	p := polynomialOf(old)
	k := heldKeyOf(old, []int{1, 3}, p).key
	deals := handDeals(p, next, 1, 2, 4, 5)
	for range 20 {
		checkNotHanded(t, k, deals[:2], next)
		checkHanded(t, k, deals, next, handedBy(p, next, []int{1, 2, 4}))
		checkHanded(t, k, deals[1:], next, handedBy(p, next, []int{2, 4, 5}))
		checkNotHanded(t, k, deals, old)
		checkNoHandShare(t, k, deals, next, 5)
	}
}

// General rules: results are new memory, and the lists of the arguments stay as they are.
func TestKeysHandedOnShareNoMemory(t *testing.T) {
	for _, pair := range crewPairs() {
		p, next := polynomialOf(pair.old), pair.next
		for _, dealers := range [][]int{nil, {1}, {pair.old.many}, upTo(pair.old.need), upTo(pair.old.many), {5}, {2, 1}} {
			lists := [][]int{upTo(pair.old.many), commitmentTo(p)}
			for _, d := range handDeals(p, next, dealers...) {
				lists = append(lists, d.Commit, d.Shares)
			}
			handed := func(given [][]int) impl.Key {
				k, deals := impl.Key{Need: pair.old.need, Many: pair.old.many, Good: given[0], Commit: given[1]}, givenDeals(dealers, given[2:])
				for _, d := range deals {
					impl.HandOk(k, d, next.need, next.many)
				}
				for member := range 6 {
					impl.HandShare(k, deals, next.need, next.many, member)
				}
				handed, _ := impl.HandKey(k, deals, next.need, next.many)
				return handed
			}
			checkMemory(t, "Good of HandKey", func(given [][]int) []int { return handed(given).Good }, lists...)
			checkMemory(t, "Commit of HandKey", func(given [][]int) []int { return handed(given).Commit }, lists...)
			k := handed(lists)
			checkApart(t, "HandKey", k.Good, k.Commit)
		}
	}
}

// General rules: results are new memory.
func TestMadeHandDealsShareNoMemory(t *testing.T) {
	for _, next := range slices.Concat(crews(), []crew{{0, 1}, {2, 1}}) {
		for _, seed := range []int{0, 999, 1000} {
			made := func() impl.Deal {
				d, _ := impl.HandMake(impl.Held{Member: 1, Share: 22}, next.need, next.many, seed)
				return d
			}
			checkMemory(t, "Commit of HandMake", func([][]int) []int { return made().Commit })
			checkMemory(t, "Shares of HandMake", func([][]int) []int { return made().Shares })
			d := made()
			checkApart(t, "HandMake", d.Commit, d.Shares)
		}
	}
}

// General rules: arguments stay as they are, the deals behind the end included.
func TestHandingOnChangesNoArgument(t *testing.T) {
	for _, pair := range crewPairs() {
		p, next := polynomialOf(pair.old), pair.next
		k := heldKeyOf(pair.old, upTo(pair.old.many), p).key
		for _, given := range [][]impl.Deal{nil, handDeals(p, next, upTo(pair.old.many)...), handDeals(p, next, 2, 1), rightDeals(next, 1), {{}, {From: 6}}} {
			deals := append(slices.Clone(given), impl.Deal{From: 91})[:len(given)]
			look := func() string {
				return fmt.Sprint(deals[:len(deals)+1], k)
			}
			before := look()
			impl.HandKey(k, deals, next.need, next.many)
			for member := 0; member <= 6; member++ {
				impl.HandShare(k, deals, next.need, next.many, member)
			}
			for _, d := range deals {
				impl.HandOk(k, d, next.need, next.many)
			}
			if look() != before {
				t.Errorf("the arguments were %s and are %s", before, look())
			}
		}
	}
}
