package tests

import (
	"fmt"
	"math"
	"slices"
	"testing"

	"loop.example/wardstaff/impl"
)

// zeroPolynomialBy gives each dealer a polynomial of its own that is 0 at 0.
func zeroPolynomialBy(from, need int) []int {
	return with(polynomialBy(from, need), 0, 0)
}

// zeroPolynomials lists polynomials of need coefficients that are 0 at 0, some of them also at members: at each set of members for which there are coefficients enough, and everywhere.
func zeroPolynomials(need int) [][]int {
	var list [][]int
	for _, rest := range tuples([]int{0, 1, 22}, need-1) {
		list = append(list, append([]int{0}, rest...))
	}
	for _, members := range memberSets() {
		if len(members)+2 > need {
			continue
		}
		p := []int{0, 7}
		for _, member := range members {
			p = timesXMinus(p, member)
		}
		list = append(list, append(p, make([]int, need-len(p))...))
	}
	return list
}

// plus adds polynomials of as many coefficients.
func plus(p, q []int) []int {
	sum := slices.Clone(p)
	for i, n := range q {
		sum[i] = (sum[i] + n) % 23
	}
	return sum
}

// opposite is the polynomial that added to p gives 0 everywhere.
func opposite(p []int) []int {
	var negated []int
	for _, n := range p {
		negated = append(negated, (23-n)%23)
	}
	return negated
}

// renewal is deals that refresh every key of a committee, and the sum of their polynomials.
type renewal struct {
	deals []impl.Deal
	added []int
}

// renewalBy deals the polynomials, made without the program.
func renewalBy(c crew, dealers []int, polynomials ...[]int) renewal {
	r := renewal{added: make([]int, c.need)}
	for i, from := range dealers {
		r.deals = append(r.deals, rightDeal(from, polynomials[i], c.many))
		r.added = plus(r.added, polynomials[i])
	}
	return r
}

// renewalOf lets each of the dealers deal its own polynomial.
func renewalOf(c crew, dealers ...int) renewal {
	var polynomials [][]int
	for _, from := range dealers {
		polynomials = append(polynomials, zeroPolynomialBy(from, c.need))
	}
	return renewalBy(c, dealers, polynomials...)
}

// freshDeals are refresh deals of the dealers.
func freshDeals(c crew, dealers ...int) []impl.Deal {
	return renewalOf(c, dealers...).deals
}

// renewals lists the deals of every set of dealers, those of one dealer, and those of two dealers that change nothing together.
func renewals(c crew) []renewal {
	var list []renewal
	for set := range 1 << c.many {
		list = append(list, renewalOf(c, inSet(set)...))
	}
	for i, p := range zeroPolynomials(c.need) {
		list = append(list, renewalBy(c, []int{1 + i%c.many}, p))
		if c.many > 1 {
			list = append(list, renewalBy(c, []int{1, c.many}, p, opposite(p)))
		}
	}
	return list
}

// fewRenewals lists some, for tests of pairs: none, one, two that change nothing together, all, and those that leave some shares as they were.
func fewRenewals(c crew) []renewal {
	list := []renewal{{added: make([]int, c.need)}, renewalOf(c, 1), renewalOf(c, upTo(c.many)...)}
	if c.many > 1 {
		p := zeroPolynomialBy(2, c.need)
		list = append(list, renewalBy(c, []int{1, c.many}, p, opposite(p)))
	}
	if all := zeroPolynomials(c.need); c.need > 2 {
		list = append(list, renewalBy(c, []int{c.many}, all[len(all)-1]), renewalBy(c, []int{c.many}, all[0]))
	}
	return list
}

// heldKeyOf is the key that commits to p, with the shares of all members, made without the program.
func heldKeyOf(c crew, good, p []int) heldKey {
	k := impl.Key{Need: c.need, Many: c.many, Good: good, Commit: commitmentTo(p)}
	return heldKey{k, heldOf(p, upTo(c.many)), p[0]}
}

// keyPolynomials lists some polynomials that a key can commit to, those of the secrets 0 and 22 included.
func keyPolynomials(c crew) [][]int {
	return [][]int{polynomialOf(c), make([]int, c.need), {0, 22, 22, 22, 22}, {11, 5, 0, 17, 0}}
}

// refreshable is a key to be refreshed, with the polynomial that it commits to.
type refreshable struct {
	heldKey
	p []int
}

// refreshables lists keys of the committee with any dealers.
func refreshables(c crew) []refreshable {
	var list []refreshable
	for i, p := range keyPolynomials(c) {
		good := [][]int{upTo(c.many), nil, {5}, {1, 2, 3, 4, 5}}[i]
		list = append(list, refreshable{heldKeyOf(c, good, p[:c.need]), p[:c.need]})
	}
	return list
}

func sameDeal(a, b impl.Deal) bool {
	return a.From == b.From && slices.Equal(a.Commit, b.Commit) && slices.Equal(a.Shares, b.Shares)
}

func checkFreshOk(t *testing.T, k impl.Key, d impl.Deal, want bool) {
	t.Helper()
	if impl.FreshOk(k, d) != want {
		t.Errorf("FreshOk(%v, %v) is not %v", k, d, want)
	}
}

// refreshed fails the test if there is no such key.
func refreshed(t *testing.T, k impl.Key, deals []impl.Deal) impl.Key {
	t.Helper()
	fresh, ok := impl.FreshKey(k, deals)
	if !ok {
		t.Fatalf("FreshKey(%v, %v) failed", k, deals)
	}
	return fresh
}

// refreshedShares fails the test if some share is not refreshed.
func refreshedShares(t *testing.T, k impl.Key, deals []impl.Deal, held []impl.Held) []impl.Held {
	t.Helper()
	var list []impl.Held
	for _, h := range held {
		fresh, ok := impl.FreshShare(k, deals, h)
		if !ok {
			t.Fatalf("FreshShare(%v, %v, %v) failed", k, deals, h)
		}
		list = append(list, fresh)
	}
	return list
}

// checkRefreshed fails the test if the deals do not make the one key of the other, with the shares of all members.
func checkRefreshed(t *testing.T, before heldKey, deals []impl.Deal, after heldKey) {
	t.Helper()
	if k := refreshed(t, before.key, deals); !sameKey(k, after.key) {
		t.Errorf("FreshKey(%v, %v) is %v, not %v", before.key, deals, k, after.key)
	}
	if held := refreshedShares(t, before.key, deals, before.held); !slices.Equal(held, after.held) {
		t.Errorf("FreshShare(%v, %v, _) of %v are %v, not %v", before.key, deals, before.held, held, after.held)
	}
}

func checkNoFreshShare(t *testing.T, k impl.Key, deals []impl.Deal, h impl.Held) {
	t.Helper()
	if fresh, ok := impl.FreshShare(k, deals, h); ok || fresh != (impl.Held{}) {
		t.Errorf("FreshShare(%v, %v, %v) is %v, %v", k, deals, h, fresh, ok)
	}
}

// checkNotRefreshed fails the test if the deals refresh the key or one of the shares.
func checkNotRefreshed(t *testing.T, k impl.Key, deals []impl.Deal, held []impl.Held) {
	t.Helper()
	if fresh, ok := impl.FreshKey(k, deals); ok || !sameKey(fresh, impl.Key{}) {
		t.Errorf("FreshKey(%v, %v) is %v, %v", k, deals, fresh, ok)
	}
	for _, h := range held {
		checkNoFreshShare(t, k, deals, h)
	}
}

// P71
func TestFreshMakeIsDealMakeOf0(t *testing.T) {
	for _, c := range crews() {
		for from := 1; from <= 5; from++ {
			for _, seed := range seeds() {
				d, ok := impl.FreshMake(from, c.need, c.many, seed)
				if !ok || !sameDeal(d, dealt(t, from, c, 0, seed)) {
					t.Errorf("FreshMake(%d, %d, %d, %d) is %v, %v", from, c.need, c.many, seed, d, ok)
				}
			}
		}
	}
}

// P71, for every seed: commitment and shares are those of a polynomial that is 0 at 0.
func TestFreshMakeCommitsTo0AndWrongsNoOne(t *testing.T) {
	for _, c := range crews() {
		for seed := range 1000 {
			d, ok := impl.FreshMake(c.many, c.need, c.many, seed)
			p := impl.DealPoly(c.need, 0, seed)
			if !ok || d.Commit[0] != 1 || !sameDeal(d, rightDeal(c.many, p, c.many)) {
				t.Errorf("FreshMake(%d, %d, %d, %d) is %v, %v", c.many, c.need, c.many, seed, d, ok)
			}
			if bad := impl.DealBad(d, c.need, c.many); len(bad) != 0 || !impl.DealOk(d, c.need, c.many) {
				t.Errorf("%v can complain about %v", bad, d)
			}
		}
	}
}

// P71, as values.
func TestFreshMakeAtNamedValues(t *testing.T) {
	for _, c := range []struct {
		crew crew
		seed int
		want impl.Deal
	}{
		{crew{2, 3}, 11, impl.Deal{From: 2, Commit: []int{1, 14}, Shares: []int{13, 3, 16}}},
		{crew{1, 1}, 0, impl.Deal{From: 5, Commit: []int{1}, Shares: []int{0}}},
		{crew{1, 5}, 999, impl.Deal{From: 3, Commit: []int{1}, Shares: []int{0, 0, 0, 0, 0}}},
		{crew{2, 2}, 22, impl.Deal{From: 2, Commit: []int{1, 1}, Shares: []int{0, 0}}},
		{crew{5, 5}, 23, impl.Deal{From: 4, Commit: []int{1, 21, 36, 42, 34}, Shares: []int{18, 15, 21, 4, 8}}},
	} {
		d, ok := impl.FreshMake(c.want.From, c.crew.need, c.crew.many, c.seed)
		if !ok || !sameDeal(d, c.want) {
			t.Errorf("FreshMake(%d, %v, %d) is %v, %v, not %v", c.want.From, c.crew, c.seed, d, ok, c.want)
		}
	}
}

// Section of FreshMake: false and the zero value where DealMake fails.
func TestFreshMakeOfInvalidArgumentsFails(t *testing.T) {
	check := func(from int, c crew, seed int) {
		t.Helper()
		d, ok := impl.FreshMake(from, c.need, c.many, seed)
		if ok || !sameDeal(d, impl.Deal{}) {
			t.Errorf("FreshMake(%d, %d, %d, %d) is %v, %v", from, c.need, c.many, seed, d, ok)
		}
	}
	for _, c := range crews() {
		for _, from := range outsideMembers() {
			check(from, c, 10)
		}
		for _, seed := range outsideSeeds() {
			check(1, c, seed)
			check(5, c, seed)
		}
	}
	for _, bad := range outsideCrews() {
		for _, seed := range []int{0, 10, 999, 1000} {
			check(1, bad, seed)
			check(0, bad, seed)
		}
	}
	for _, far := range []int{math.MinInt, math.MaxInt} {
		check(far, crew{far, far}, far)
	}
}

// P72: each dealer, each number that is dealt, and each set of wronged members.
func TestFreshOkIsTrueIfAMemberDeals0AndWrongsNoOne(t *testing.T) {
	for _, c := range crews() {
		k := keyBy(c, upTo(c.many))
		for from := 1; from <= 5; from++ {
			for _, dealt := range []int{0, 1, 5, 22} {
				right := rightDeal(from, with(polynomialBy(from, c.need), 0, dealt), c.many)
				for wronged := range 1 << c.many {
					d := wrongDeal(right, wronged, 1+wronged%22)
					checkFreshOk(t, k, d, from <= c.many && dealt == 0 && wronged == 0)
				}
			}
		}
	}
}

// P72, by the functions that the promise names.
func TestFreshOkIsWhatDealOkAndDealBadSay(t *testing.T) {
	for _, c := range crews() {
		k := keyBy(c, []int{1})
		fresh := freshDeals(c, 1)[0]
		for _, commit := range append(fewCommitments(), fresh.Commit, make([]int, c.need)) {
			for from := 0; from <= 6; from++ {
				for _, shares := range [][]int{{}, make([]int, c.many), fresh.Shares, {22, 22, 22}} {
					d := impl.Deal{From: from, Commit: commit, Shares: shares}
					want := impl.DealOk(d, c.need, c.many) && from <= c.many && commit[0] == 1 && len(impl.DealBad(d, c.need, c.many)) == 0
					checkFreshOk(t, k, d, want)
				}
			}
		}
	}
}

// P72: any dealers can have made the key, and the dealer need not be one of them.
func TestFreshOkIsTrueForEveryKeyOfTheCommittee(t *testing.T) {
	for _, c := range crews() {
		for _, k := range validKeys(c) {
			for _, d := range freshDeals(c, upTo(c.many)...) {
				checkFreshOk(t, k, d, true)
			}
		}
		k := keyBy(c, upTo(c.many))
		for _, p := range zeroPolynomials(c.need) {
			checkFreshOk(t, k, rightDeal(c.many, p, c.many), true)
		}
	}
}

// P72: every other number in the place of one share.
func TestFreshOkIsFalseForAnyWrongShare(t *testing.T) {
	for _, c := range crews() {
		k := keyBy(c, upTo(c.many))
		for from := 1; from <= c.many; from++ {
			d := freshDeals(c, from)[0]
			for i, share := range d.Shares {
				for _, wrong := range wrongShares(share) {
					checkFreshOk(t, k, impl.Deal{From: from, Commit: d.Commit, Shares: with(d.Shares, i, wrong)}, false)
				}
			}
		}
	}
}

// misshapedFreshDeals lists deals of 0 with one thing wrong each: the dealer, the commitment or the shares.
func misshapedFreshDeals(c crew) []impl.Deal {
	d := freshDeals(c, 1)[0]
	var list []impl.Deal
	add := func(from int, commit, shares []int) {
		list = append(list, impl.Deal{From: from, Commit: commit, Shares: shares})
	}
	for _, from := range outsideMembers() {
		add(from, d.Commit, d.Shares)
	}
	for _, commit := range [][]int{nil, {}, d.Commit[:c.need-1], append(slices.Clone(d.Commit), 1), append(slices.Clone(d.Commit), 24), {1, 1, 1, 1, 1, 1}, make([]int, c.need)} {
		add(1, commit, d.Shares)
	}
	for _, shares := range [][]int{nil, {}, d.Shares[:c.many-1], append(slices.Clone(d.Shares), valueAt(zeroPolynomialBy(1, c.need), c.many+1)), append(slices.Clone(d.Shares), 0)} {
		add(1, d.Commit, shares)
	}
	for i := range d.Commit {
		for _, bad := range outsideGroup() {
			add(1, with(d.Commit, i, bad), d.Shares)
		}
	}
	for i := range d.Shares {
		for _, bad := range outsideField() {
			add(1, d.Commit, with(d.Shares, i, bad))
		}
	}
	for _, other := range crews() {
		if other != c {
			list = append(list, freshDeals(other, 1)[0])
		}
	}
	for _, far := range []int{math.MinInt, math.MaxInt} {
		add(far, []int{far}, []int{far})
	}
	return append(list, impl.Deal{})
}

// P72 and P74: a deal that is not well formed refreshes nothing, alone or before others.
func TestADealNotWellFormedRefreshesNothing(t *testing.T) {
	for _, c := range crews() {
		k := heldKeyOf(c, upTo(c.many), polynomialOf(c))
		for _, d := range misshapedFreshDeals(c) {
			checkFreshOk(t, k.key, d, false)
			checkNotRefreshed(t, k.key, []impl.Deal{d}, k.held)
			if c.many > 1 {
				checkNotRefreshed(t, k.key, append([]impl.Deal{d}, freshDeals(c, upTo(c.many)[1:]...)...), k.held)
			}
		}
	}
}

// Sections of FreshOk, FreshKey and FreshShare: an invalid key is not refreshed, nor where there are no deals.
func TestAnInvalidKeyIsNotRefreshed(t *testing.T) {
	check := func(k impl.Key, d impl.Deal, held []impl.Held) {
		t.Helper()
		checkFreshOk(t, k, d, false)
		checkNotRefreshed(t, k, []impl.Deal{d}, held)
		checkNotRefreshed(t, k, nil, held)
		checkNotRefreshed(t, k, []impl.Deal{}, held)
	}
	for _, c := range crews() {
		for _, k := range invalidKeys(c) {
			check(k, freshDeals(c, 1)[0], []impl.Held{{Member: 1, Share: valueAt(polynomialOf(c), 1)}})
		}
	}
	for _, bad := range outsideCrews() {
		if bad.need >= 1 && bad.need <= 6 && bad.many >= 0 && bad.many <= 6 { // lists that would fit
			p := []int{0, 0, 7, 13, 1, 4}[:bad.need]
			k := impl.Key{Need: bad.need, Many: bad.many, Good: []int{1}, Commit: commitmentTo(p)}
			check(k, rightDeal(1, p, bad.many), []impl.Held{{Member: 1, Share: valueAt(p, 1)}})
		}
	}
	check(impl.Key{}, impl.Deal{}, []impl.Held{{}, {Member: 1}})
	for _, far := range []int{math.MinInt, math.MaxInt} {
		k := impl.Key{Need: far, Many: far, Good: []int{far}, Commit: []int{far}}
		check(k, impl.Deal{From: far, Commit: []int{far}, Shares: []int{far}}, []impl.Held{{Member: far, Share: far}})
	}
}

// P73, by the functions that the promise names.
func TestARefreshedKeyHasTheSamePublicKeyAndThreshold(t *testing.T) {
	for _, c := range crews() {
		for _, k := range heldKeys(t, c) {
			for _, r := range fewRenewals(c) {
				fresh := refreshed(t, k.key, r.deals)
				if impl.KeyPub(fresh) != impl.KeyPub(k.key) || fresh.Need != c.need || fresh.Many != c.many || !impl.KeyOk(fresh) {
					t.Errorf("FreshKey(%v, %v) is %v", k.key, r.deals, fresh)
				}
				if !slices.Equal(fresh.Good, k.key.Good) {
					t.Errorf("the dealers of %v are those of %v no longer", fresh, k.key)
				}
				for _, h := range refreshedShares(t, k.key, r.deals, k.held) {
					if !impl.KeyFits(fresh, h.Member, h.Share) {
						t.Errorf("%v is no share of %v", h, fresh)
					}
				}
			}
		}
	}
}

// P73 and P75: key and shares are those of the sum of the polynomials.
func TestARefreshAddsWhatIsDealt(t *testing.T) {
	for _, c := range crews() {
		for _, k := range refreshables(c) {
			for _, r := range renewals(c) {
				checkRefreshed(t, k.heldKey, r.deals, heldKeyOf(c, k.key.Good, plus(k.p, r.added)))
			}
		}
	}
}

// P73, for every key, whoever made it.
func TestFreshKeyIsTheProductOfTheCommitments(t *testing.T) {
	for _, c := range crews() {
		for _, k := range validKeys(c) {
			for _, r := range fewRenewals(c) {
				want := impl.CommitSum(k.Commit, commitmentTo(r.added))
				if fresh := refreshed(t, k, r.deals); !sameKey(fresh, impl.Key{Need: c.need, Many: c.many, Good: k.Good, Commit: want}) {
					t.Errorf("FreshKey(%v, %v) is %v, not by %v", k, r.deals, fresh, want)
				}
			}
		}
	}
}

// P73 and P75, as values.
func TestARefreshAtNamedValues(t *testing.T) {
	k := heldKey{impl.Key{Need: 2, Many: 3, Good: []int{1}, Commit: []int{32, 37}}, heldBy(upTo(3), []int{15, 2, 12}), 5}
	second := impl.Deal{From: 2, Commit: []int{1, 14}, Shares: []int{13, 3, 16}}
	third := impl.Deal{From: 3, Commit: []int{1, 37}, Shares: []int{10, 20, 7}}
	for _, c := range []struct {
		deals          []impl.Deal
		commit, shares []int
	}{
		{nil, []int{32, 37}, []int{15, 2, 12}},
		{[]impl.Deal{second}, []int{32, 1}, []int{5, 5, 5}},
		{[]impl.Deal{third}, []int{32, 6}, []int{2, 22, 19}},
		{[]impl.Deal{second, third}, []int{32, 37}, []int{15, 2, 12}},
	} {
		want := impl.Key{Need: 2, Many: 3, Good: []int{1}, Commit: c.commit}
		checkRefreshed(t, k, c.deals, heldKey{want, heldBy(upTo(3), c.shares), 5})
	}
	checkNotRefreshed(t, k.key, []impl.Deal{third, second}, k.held)
	checkNotRefreshed(t, k.key, []impl.Deal{second, second}, k.held)
}

// states of the refresh deal of one dealer.
const (
	freshNone = iota
	freshRight
	freshOther
	freshSpoilt
	freshMisshaped
)

// freshScene makes the deals of which that of dealer i+1 is in the state states[i], and reports whether all of them are right.
func freshScene(c crew, states []int) ([]impl.Deal, bool) {
	var deals []impl.Deal
	right := true
	for i, state := range states {
		from := i + 1
		d := freshDeals(c, from)[0]
		switch state {
		case freshNone:
			continue
		case freshOther:
			d = rightDeal(from, with(zeroPolynomialBy(from, c.need), 0, 1+i*5), c.many)
		case freshSpoilt:
			d = wrongDeal(d, 1<<(i%c.many), 1+i*5)
		case freshMisshaped:
			d.Shares = append(d.Shares, 0)
		}
		right = right && state == freshRight && from <= c.many
		deals = append(deals, d)
	}
	return deals, right
}

// P74: the states of all dealers of the committee, and of one that is not of it, in every combination.
func TestFreshKeySucceedsIfAllDealsSatisfyFreshOk(t *testing.T) {
	for _, c := range crews() {
		k := heldKeyOf(c, upTo(c.many), polynomialOf(c))
		for _, states := range tuples([]int{freshNone, freshRight, freshOther, freshSpoilt, freshMisshaped}, min(c.many+1, 5)) {
			deals, right := freshScene(c, states)
			for _, d := range deals {
				checkFreshOk(t, k.key, d, d.From <= c.many && states[d.From-1] == freshRight)
			}
			if !right {
				checkNotRefreshed(t, k.key, deals, k.held)
				continue
			}
			fresh := refreshed(t, k.key, deals)
			for _, h := range refreshedShares(t, k.key, deals, k.held) {
				if !impl.KeyFits(fresh, h.Member, h.Share) {
					t.Errorf("%v is no share of %v", h, fresh)
				}
			}
		}
	}
}

// P74: the dealers in every order, repeated ones included.
func TestFreshKeyFailsIfTheDealsAreNotOrdered(t *testing.T) {
	for _, c := range crews() {
		k := heldKeyOf(c, upTo(c.many), polynomialOf(c))
		for length := 0; length <= 5; length++ {
			for _, dealers := range tuples(upTo(5), length) {
				right := slices.IsSorted(dealers) && len(slices.Compact(slices.Clone(dealers))) == length
				right = right && (length == 0 || slices.Max(dealers) <= c.many)
				r := renewalOf(c, dealers...)
				if right {
					checkRefreshed(t, k, r.deals, heldKeyOf(c, k.key.Good, plus(polynomialOf(c), r.added)))
				} else {
					checkNotRefreshed(t, k.key, r.deals, k.held[:1])
				}
			}
		}
	}
}

// Section of FreshKey: at most MemberMax deals.
func TestFreshKeyOfTooManyDealsFails(t *testing.T) {
	for _, c := range crews() {
		k := heldKeyOf(c, upTo(c.many), polynomialOf(c))
		right := freshDeals(c, 1, 2, 3, 4, 5)
		from := func(n int) impl.Deal {
			return impl.Deal{From: n, Commit: right[0].Commit, Shares: right[0].Shares}
		}
		for _, deals := range [][]impl.Deal{
			append(slices.Clone(right), from(6)),
			append(slices.Clone(right), from(5)),
			append(slices.Clone(right), from(6), from(math.MaxInt)),
			append([]impl.Deal{from(0)}, right...),
			append([]impl.Deal{from(math.MinInt), from(-1), from(0)}, right...),
			freshDeals(c, 1, 1, 1, 1, 1, 1),
			make([]impl.Deal, 6),
			make([]impl.Deal, 100),
		} {
			checkNotRefreshed(t, k.key, deals, k.held)
		}
	}
}

// P74: deals that are wrong by as much as others do not become right together.
func TestWrongDealsDoNotMakeUpForEachOther(t *testing.T) {
	for _, c := range crews() {
		if c.many == 1 {
			continue
		}
		k := heldKeyOf(c, upTo(c.many), polynomialOf(c))
		p := zeroPolynomialBy(3, c.need)
		for added := 1; added < 23; added++ {
			others := renewalBy(c, []int{1, c.many}, with(p, 0, added), with(p, 0, 23-added))
			checkNotRefreshed(t, k.key, others.deals, k.held)
			for member := range c.many {
				deals := freshDeals(c, 1, c.many)
				deals[0], deals[1] = wrongDeal(deals[0], 1<<member, added), wrongDeal(deals[1], 1<<member, 23-added)
				checkNotRefreshed(t, k.key, deals, k.held)
			}
		}
	}
}

// P75: what comes of each share is of the same member and fits, and it is the only one.
func TestARefreshedShareIsOfTheSameMemberAndFits(t *testing.T) {
	for _, c := range crews() {
		for _, k := range heldKeys(t, c) {
			for _, r := range fewRenewals(c) {
				fresh := refreshed(t, k.key, r.deals)
				for i, h := range refreshedShares(t, k.key, r.deals, k.held) {
					if h.Member != i+1 {
						t.Errorf("the share of member %d becomes %v", i+1, h)
					}
					for share := range 23 {
						if impl.KeyFits(fresh, h.Member, share) != (share == h.Share) {
							t.Errorf("the share %d of member %d, not %d, fits %v", share, h.Member, h.Share, fresh)
						}
					}
				}
			}
		}
	}
}

// Section of FreshShare: a share that is not the member's is not refreshed.
func TestAShareThatDoesNotFitIsNotRefreshed(t *testing.T) {
	for _, c := range crews() {
		k := heldKeyOf(c, upTo(c.many), polynomialOf(c))
		for _, r := range fewRenewals(c) {
			for _, h := range k.held {
				for _, wrong := range wrongShares(h.Share) {
					checkNoFreshShare(t, k.key, r.deals, impl.Held{Member: h.Member, Share: wrong})
				}
			}
			for _, member := range outsideMembersOf(c) {
				for _, share := range slices.Concat(upTo22(), []int{member, math.MinInt, math.MaxInt}) {
					checkNoFreshShare(t, k.key, r.deals, impl.Held{Member: member, Share: share})
				}
			}
		}
	}
}

// P76: the elder shares, of which each refresh leaves some as they were, all or none.
func TestAnElderShareFitsOnlyIfItIsNotChanged(t *testing.T) {
	for _, c := range crews() {
		changed, unchanged := 0, 0
		for _, k := range refreshables(c) {
			for _, r := range renewals(c) {
				fresh := refreshed(t, k.key, r.deals)
				for i, h := range refreshedShares(t, k.key, r.deals, k.held) {
					elder := k.held[i]
					same := valueAt(r.added, elder.Member) == 0
					if (h == elder) != same || impl.KeyFits(fresh, elder.Member, elder.Share) != same {
						t.Errorf("%v refreshes %v to %v, for %v", r.deals, elder, h, fresh)
					}
					if same {
						unchanged++
						continue
					}
					changed++
					checkNoFreshShare(t, fresh, r.deals, elder)
					checkNoFreshShare(t, k.key, r.deals, h)
				}
			}
		}
		if unchanged == 0 || changed == 0 && c.need > 1 {
			t.Errorf("of %v, %d shares are changed and %d are not", c, changed, unchanged)
		}
	}
}

// P77
func TestTheRefreshedSharesGiveTheSameSecret(t *testing.T) {
	for _, c := range crews() {
		for _, k := range refreshables(c) {
			for _, r := range renewals(c) {
				checkSecret(t, c.many, k.held, k.secret)
				checkSecret(t, c.many, refreshedShares(t, k.key, r.deals, k.held), k.secret)
			}
		}
	}
}

// P77, for keys that a committee made, and every set of enough members.
func TestEnoughRefreshedSharesGiveTheSameSecret(t *testing.T) {
	for _, c := range crews() {
		for _, k := range heldKeys(t, c) {
			var deals []impl.Deal
			for from := 1; from <= c.many; from++ {
				d, _ := impl.FreshMake(from, c.need, c.many, 37*from)
				deals = append(deals, d)
			}
			held := refreshedShares(t, k.key, deals, k.held)
			for _, members := range membersAmong(c, c.need) {
				checkSecret(t, c.need, heldAmong(held, members), k.secret)
			}
			checkHeldBad(t, refreshed(t, k.key, deals), held, nil)
		}
	}
}

// P78
func TestWithoutDealsNothingIsChanged(t *testing.T) {
	for _, c := range crews() {
		for _, none := range [][]impl.Deal{nil, {}, freshDeals(c, 1)[:0]} {
			for _, k := range validKeys(c) {
				if fresh := refreshed(t, k, none); !sameKey(fresh, k) {
					t.Errorf("%v becomes %v", k, fresh)
				}
				for member := 1; member <= c.many; member++ {
					for share := range 23 {
						h := impl.Held{Member: member, Share: share}
						if !impl.KeyFits(k, member, share) {
							checkNoFreshShare(t, k, none, h)
						} else if fresh, ok := impl.FreshShare(k, none, h); !ok || fresh != h {
							t.Errorf("FreshShare(%v, %v, %v) is %v, %v", k, none, h, fresh, ok)
						}
					}
				}
			}
		}
	}
}

// P79: the same dealers twice, and others.
func TestTwoRefreshesOneBehindTheOther(t *testing.T) {
	for _, c := range crews() {
		for _, k := range refreshables(c) {
			for _, first := range fewRenewals(c) {
				once := heldKeyOf(c, k.key.Good, plus(k.p, first.added))
				checkRefreshed(t, k.heldKey, first.deals, once)
				for _, second := range fewRenewals(c) {
					twice := heldKeyOf(c, k.key.Good, plus(plus(k.p, first.added), second.added))
					checkRefreshed(t, once, second.deals, twice)
					if impl.KeyPub(twice.key) != impl.KeyPub(k.key) {
						t.Errorf("the public key of %v is not that of %v", twice.key, k.key)
					}
				}
			}
		}
	}
}

// P79, by the functions that the promise names: some deals and then the others are as all at once, in either order.
func TestSomeDealsAndThenTheOthersAreAsAllAtOnce(t *testing.T) {
	for _, c := range crews() {
		k := heldKeyOf(c, []int{2}, polynomialOf(c))
		all := freshDeals(c, upTo(c.many)...)
		after := heldKey{refreshed(t, k.key, all), refreshedShares(t, k.key, all, k.held), k.secret}
		for set := range 1 << c.many {
			some := freshDeals(c, inSet(set)...)
			others := freshDeals(c, inSet(1<<c.many-1-set)...)
			between := heldKey{refreshed(t, k.key, some), refreshedShares(t, k.key, some, k.held), k.secret}
			checkRefreshed(t, between, others, after)
			if impl.KeyPub(between.key) != impl.KeyPub(k.key) || impl.KeyPub(after.key) != impl.KeyPub(k.key) {
				t.Errorf("%v becomes %v and %v", k.key, between.key, after.key)
			}
		}
	}
}

// P80
func TestAnElderShareAmongRefreshedOnesGivesAnotherSecret(t *testing.T) {
	for _, c := range crews() {
		k := refreshables(c)[0]
		for _, r := range renewals(c) {
			fresh := refreshed(t, k.key, r.deals)
			held := refreshedShares(t, k.key, r.deals, k.held)
			for _, members := range ascendingMembers(c) {
				l := heldAmong(held, members)
				checkSecret(t, c.need, l, k.secret)
				for i, h := range l {
					mixed := heldWith(l, i, k.held[h.Member-1].Share)
					same := valueAt(r.added, h.Member) == 0
					if secret := secretOf(t, c.need, mixed); (secret == k.secret) != same {
						t.Errorf("%v give the secret %d, %v give %d", mixed, secret, l, k.secret)
					}
					if same {
						checkHeldBad(t, fresh, mixed, nil)
					} else {
						checkHeldBad(t, fresh, mixed, []int{h.Member})
					}
				}
			}
		}
	}
}

// P81: alone, and among deals of 0 at every place.
func TestADealOfANonzeroSecretIsFoundOut(t *testing.T) {
	for _, c := range crews() {
		k := heldKeyOf(c, upTo(c.many), polynomialOf(c))
		for from := 1; from <= c.many; from++ {
			for secret := range 23 {
				for _, seed := range []int{0, 22, 23, 999} {
					d := dealt(t, from, c, secret, seed)
					checkFreshOk(t, k.key, d, secret == 0)
					if secret == 0 {
						continue
					}
					deals := freshDeals(c, upTo(c.many)...)
					deals[from-1] = d
					checkNotRefreshed(t, k.key, []impl.Deal{d}, k.held)
					checkNotRefreshed(t, k.key, deals, k.held)
				}
			}
		}
	}
}

// P81: a deal of another number is found out as well if it commits to 0 without dealing it.
func TestANonzeroSecretBehindACommitmentTo0IsFoundOut(t *testing.T) {
	for _, c := range crews() {
		k := heldKeyOf(c, upTo(c.many), polynomialOf(c))
		for secret := 1; secret < 23; secret++ {
			d := dealt(t, c.many, c, secret, 999)
			d.Commit = with(d.Commit, 0, 1)
			if bad := impl.DealBad(d, c.need, c.many); len(bad) == 0 {
				t.Errorf("no one can complain about %v", d)
			}
			checkFreshOk(t, k.key, d, false)
			checkNotRefreshed(t, k.key, []impl.Deal{d}, k.held)
		}
	}
}

// General rules: nothing is kept from one call to the next, whatever was asked in between.
func TestRefreshesKeepNoState(t *testing.T) {
	c := crew{3, 5}
	k := heldKeyOf(c, []int{1, 3}, polynomialOf(c))
	r := renewalOf(c, 2, 4)
	after := heldKeyOf(c, []int{1, 3}, plus(polynomialOf(c), r.added))
	for range 20 {
		checkNotRefreshed(t, k.key, rightDeals(c, 1), k.held)
		checkRefreshed(t, k, r.deals, after)
		checkRefreshed(t, k, nil, k)
		checkNoFreshShare(t, after.key, nil, k.held[0])
	}
}

// General rules: results are new memory, and the lists of the arguments stay as they are.
func TestRefreshedKeysShareNoMemory(t *testing.T) {
	for _, c := range crews() {
		for _, good := range [][]int{nil, {}, {5}, upTo(c.many)} {
			for _, dealers := range [][]int{nil, {1}, {c.many}, upTo(c.many), {5}, {2, 1}, {1, 1}} {
				lists := [][]int{good, commitmentTo(polynomialOf(c))}
				for _, d := range freshDeals(c, dealers...) {
					lists = append(lists, d.Commit, d.Shares)
				}
				fresh := func(given [][]int) impl.Key {
					k, deals := impl.Key{Need: c.need, Many: c.many, Good: given[0], Commit: given[1]}, givenDeals(dealers, given[2:])
					for _, d := range deals {
						impl.FreshOk(k, d)
					}
					for _, h := range heldOf(polynomialOf(c), upTo(c.many)) {
						impl.FreshShare(k, deals, h)
					}
					fresh, _ := impl.FreshKey(k, deals)
					return fresh
				}
				checkMemory(t, "Good of FreshKey", func(given [][]int) []int { return fresh(given).Good }, lists...)
				checkMemory(t, "Commit of FreshKey", func(given [][]int) []int { return fresh(given).Commit }, lists...)
				k := fresh(lists)
				checkApart(t, "FreshKey", k.Good, k.Commit)
			}
		}
	}
}

// General rules: results are new memory.
func TestMadeRefreshDealsShareNoMemory(t *testing.T) {
	for _, c := range slices.Concat(crews(), []crew{{0, 1}, {2, 1}}) {
		for _, seed := range []int{0, 999, 1000} {
			made := func() impl.Deal {
				d, _ := impl.FreshMake(1, c.need, c.many, seed)
				return d
			}
			checkMemory(t, "Commit of FreshMake", func([][]int) []int { return made().Commit })
			checkMemory(t, "Shares of FreshMake", func([][]int) []int { return made().Shares })
			d := made()
			checkApart(t, "FreshMake", d.Commit, d.Shares)
		}
	}
}

// General rules: arguments stay as they are, the deals behind the end included.
func TestRefreshesChangeNoArgument(t *testing.T) {
	for _, c := range crews() {
		k := heldKeyOf(c, upTo(c.many), polynomialOf(c))
		for _, given := range [][]impl.Deal{nil, freshDeals(c, upTo(c.many)...), freshDeals(c, 2, 1), rightDeals(c, 1), {{}, {From: 6}}} {
			deals := append(slices.Clone(given), impl.Deal{From: 91})[:len(given)]
			look := func() string {
				return fmt.Sprint(deals[:len(deals)+1], k)
			}
			before := look()
			impl.FreshKey(k.key, deals)
			for member := 0; member <= 6; member++ {
				impl.FreshShare(k.key, deals, impl.Held{Member: member, Share: valueAt(polynomialOf(c), member)})
			}
			for _, d := range deals {
				impl.FreshOk(k.key, d)
			}
			if look() != before {
				t.Errorf("the arguments were %s and are %s", before, look())
			}
		}
	}
}
