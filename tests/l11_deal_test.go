package tests

import (
	"math"
	"slices"
	"testing"

	"loop.example/wardstaff/impl"
)

// crew is a committee: how many members it has, and how many of them are needed.
type crew struct{ need, many int }

// crews lists all valid committees.
func crews() []crew {
	return []crew{
		{1, 1},
		{1, 2}, {2, 2},
		{1, 3}, {2, 3}, {3, 3},
		{1, 4}, {2, 4}, {3, 4}, {4, 4},
		{1, 5}, {2, 5}, {3, 5}, {4, 5}, {5, 5},
	}
}

// outsideCrews lists committees that are not valid, the sizes of which the lists of a deal can have and cannot have.
func outsideCrews() []crew {
	list := []crew{
		{0, 0}, {0, 1}, {0, 5}, {1, 0}, {2, 1}, {3, 2}, {4, 3}, {5, 4}, {6, 5}, {5, 1},
		{1, 6}, {5, 6}, {6, 6}, {23, 23}, {-1, -1}, {-1, 3}, {1, -1}, {100, 100},
	}
	for _, far := range []int{math.MinInt, math.MinInt + 1, math.MaxInt - 1, math.MaxInt} {
		list = append(list, crew{far, 3}, crew{2, far}, crew{far, far}, crew{math.MaxInt, far})
	}
	return list
}

// outsideMembers lists numbers that no dealer has.
func outsideMembers() []int {
	return []int{0, 6, 7, 22, 23, 24, 28, -1, -5, math.MinInt, math.MinInt + 1, math.MaxInt - 1, math.MaxInt}
}

// seeds lists both ends, the edges of the rounding by 23, and some others.
func seeds() []int {
	return []int{0, 1, 10, 22, 23, 24, 45, 46, 500, 528, 529, 988, 989, 998, 999}
}

func outsideSeeds() []int {
	return []int{-1, -22, -23, -24, -999, 1000, 1001, 1023, 23000, math.MinInt, math.MinInt + 1, math.MaxInt - 1, math.MaxInt}
}

// secrets lists both ends, and some others.
func secrets() []int {
	return []int{0, 1, 5, 11, 21, 22}
}

// dealt fails the test if there is no such deal.
func dealt(t *testing.T, from int, c crew, secret, seed int) impl.Deal {
	t.Helper()
	d, ok := impl.DealMake(from, c.need, c.many, secret, seed)
	if !ok || len(d.Commit) != c.need || len(d.Shares) != c.many {
		t.Fatalf("DealMake(%d, %d, %d, %d, %d) is %v, %v", from, c.need, c.many, secret, seed, d, ok)
	}
	return d
}

// valuesUpTo lists the values of p at 1 to many.
func valuesUpTo(p []int, many int) []int {
	var list []int
	for x := 1; x <= many; x++ {
		list = append(list, valueAt(p, x))
	}
	return list
}

// rightDeal is the deal whose commitment and shares are those of p, made without the program.
func rightDeal(from int, p []int, many int) impl.Deal {
	return impl.Deal{From: from, Commit: commitmentTo(p), Shares: valuesUpTo(p, many)}
}

// wrongDeal adds to each share of a member whose bit is set.
func wrongDeal(d impl.Deal, members, added int) impl.Deal {
	shares := slices.Clone(d.Shares)
	for i := range shares {
		if members>>i&1 == 1 {
			shares[i] = (shares[i] + added) % 23
		}
	}
	return impl.Deal{From: d.From, Commit: d.Commit, Shares: shares}
}

// polynomialOf has the coefficients that the deals of a committee are tried with.
func polynomialOf(c crew) []int {
	return []int{22, 0, 7, 13, 1}[:c.need]
}

// misshaped is a deal with what committee it is not well formed for.
type misshaped struct {
	deal impl.Deal
	crew crew
}

// misshapedDeals lists deals with one thing wrong each: the dealer, the committee, the commitment or the shares.
func misshapedDeals() []misshaped {
	var list []misshaped
	for _, c := range crews() {
		d := rightDeal(1, polynomialOf(c), c.many)
		add := func(from int, commit, shares []int) {
			list = append(list, misshaped{impl.Deal{From: from, Commit: commit, Shares: shares}, c})
		}
		for _, from := range outsideMembers() {
			add(from, d.Commit, d.Shares)
		}
		for _, commit := range [][]int{nil, {}, d.Commit[1:], append(slices.Clone(d.Commit), 1), append(slices.Clone(d.Commit), 24), make([]int, c.need)} {
			add(5, commit, d.Shares)
		}
		for _, shares := range [][]int{nil, {}, d.Shares[1:], append(slices.Clone(d.Shares), 0), append(slices.Clone(d.Shares), valueAt(polynomialOf(c), c.many+1))} {
			add(5, d.Commit, shares)
		}
		for i := range d.Commit {
			for _, bad := range outsideGroup() {
				add(2, with(d.Commit, i, bad), d.Shares)
			}
		}
		for i := range d.Shares {
			for _, bad := range outsideField() {
				add(2, d.Commit, with(d.Shares, i, bad))
			}
		}
		for _, other := range slices.Concat(crews(), outsideCrews()) {
			if other != c {
				list = append(list, misshaped{d, other})
			}
		}
	}
	for _, c := range outsideCrews() {
		list = append(list, misshaped{impl.Deal{From: 1}, c})
		if c.need >= 0 && c.need <= 6 && c.many >= 0 && c.many <= 6 { // lists that would fit
			list = append(list, misshaped{rightDeal(1, []int{22, 0, 7, 13, 1, 4}[:c.need], c.many), c})
		}
	}
	return append(list, misshaped{impl.Deal{}, crew{1, 1}})
}

func TestMemberMaxIs5(t *testing.T) {
	if impl.MemberMax != 5 {
		t.Errorf("MemberMax is %d", impl.MemberMax)
	}
}

// P39
func TestCrewOkIsTrueForExactlyTheCommittees(t *testing.T) {
	for need := -30; need <= 30; need++ {
		for many := -30; many <= 30; many++ {
			if want := slices.Contains(crews(), crew{need, many}); impl.CrewOk(need, many) != want {
				t.Errorf("CrewOk(%d, %d) is not %v", need, many, want)
			}
		}
	}
	for _, c := range outsideCrews() {
		if impl.CrewOk(c.need, c.many) {
			t.Errorf("CrewOk(%d, %d)", c.need, c.many)
		}
	}
}

// P40
func TestDealPolyHasTheSecretAndACoefficientPerRequiredMember(t *testing.T) {
	for need := 1; need <= 5; need++ {
		for secret := range 23 {
			for seed := range 1000 {
				p := impl.DealPoly(need, secret, seed)
				if len(p) != need || p[0] != secret || !impl.PolyOk(p) {
					t.Errorf("DealPoly(%d, %d, %d) is %v", need, secret, seed, p)
				}
			}
		}
	}
}

// P40, as values: the other coefficients follow from the seed alone, by steps from one to the next.
func TestDealPolyFollowsTheRuleForItsCoefficients(t *testing.T) {
	for seed := range 1000 {
		rounds := 0
		for rest := seed; rest >= 23; rest -= 23 {
			rounds++
		}
		want := []int{0}
		coefficient := seed + 5*rounds
		for i := 1; i <= 4; i++ {
			coefficient += 2*seed + 3*(2*i-1)
			want = append(want, coefficient%23)
		}
		for need := 1; need <= 5; need++ {
			for _, secret := range secrets() {
				want[0] = secret
				if got := impl.DealPoly(need, secret, seed); !slices.Equal(got, want[:need]) {
					t.Errorf("DealPoly(%d, %d, %d) is %v, not %v", need, secret, seed, got, want[:need])
				}
			}
		}
	}
}

// P40
func TestDealPolyAtNamedValues(t *testing.T) {
	for _, c := range []struct {
		need, secret, seed int
		want               []int
	}{
		{2, 5, 10, []int{5, 10}},
		{1, 0, 0, []int{0}},
		{1, 22, 999, []int{22}},
		{5, 0, 0, []int{0, 3, 12, 4, 2}},
		{5, 22, 22, []int{22, 0, 7, 20, 16}},
		{5, 0, 23, []int{0, 8, 17, 9, 7}},
		{5, 22, 999, []int{22, 18, 1, 13, 8}},
		{3, 1, 999, []int{1, 18, 1}},
	} {
		if got := impl.DealPoly(c.need, c.secret, c.seed); !slices.Equal(got, c.want) {
			t.Errorf("DealPoly(%d, %d, %d) is %v, not %v", c.need, c.secret, c.seed, got, c.want)
		}
	}
}

// Section of DealPoly: empty if need, secret or seed is out of range.
func TestDealPolyOfInvalidArgumentsIsEmpty(t *testing.T) {
	check := func(need, secret, seed int) {
		if got := impl.DealPoly(need, secret, seed); len(got) != 0 {
			t.Errorf("DealPoly(%d, %d, %d) is %v, not empty", need, secret, seed, got)
		}
	}
	for _, secret := range secrets() {
		for _, seed := range seeds() {
			for _, need := range outsideMembers() {
				check(need, secret, seed)
			}
		}
	}
	for need := 1; need <= 5; need++ {
		for _, seed := range seeds() {
			for _, secret := range outsideField() {
				check(need, secret, seed)
			}
		}
		for _, secret := range secrets() {
			for _, seed := range outsideSeeds() {
				check(need, secret, seed)
			}
		}
	}
	for _, far := range []int{math.MinInt, math.MaxInt} {
		check(far, far, far)
	}
}

// P41
func TestDealMakeDealsWhatItCommitsTo(t *testing.T) {
	for _, c := range crews() {
		for from := 1; from <= 5; from++ {
			for _, secret := range secrets() {
				for _, seed := range seeds() {
					d := dealt(t, from, c, secret, seed)
					p := impl.DealPoly(c.need, secret, seed)
					if d.From != from || !slices.Equal(d.Commit, impl.CommitOf(p)) {
						t.Errorf("DealMake(%d, %d, %d, %d, %d) is %v, of the polynomial %v", from, c.need, c.many, secret, seed, d, p)
					}
					for i, share := range d.Shares {
						if share != impl.PolyAt(p, i+1) {
							t.Errorf("DealMake(%d, %d, %d, %d, %d) gives %d to member %d", from, c.need, c.many, secret, seed, share, i+1)
						}
					}
					if bad := impl.DealBad(d, c.need, c.many); len(bad) != 0 || !impl.DealOk(d, c.need, c.many) {
						t.Errorf("%v can complain about %v", bad, d)
					}
				}
			}
		}
	}
}

// P41
func TestDealMakeAtNamedValues(t *testing.T) {
	for _, c := range []struct {
		from         int
		crew         crew
		secret, seed int
		want         impl.Deal
	}{
		{1, crew{2, 3}, 5, 10, impl.Deal{From: 1, Commit: []int{32, 37}, Shares: []int{15, 2, 12}}},
		{5, crew{1, 1}, 0, 0, impl.Deal{From: 5, Commit: []int{1}, Shares: []int{0}}},
		{3, crew{1, 5}, 22, 999, impl.Deal{From: 3, Commit: []int{24}, Shares: []int{22, 22, 22, 22, 22}}},
		{2, crew{2, 2}, 0, 22, impl.Deal{From: 2, Commit: []int{1, 1}, Shares: []int{0, 0}}},
		{4, crew{5, 5}, 0, 23, impl.Deal{From: 4, Commit: []int{1, 21, 36, 42, 34}, Shares: []int{18, 15, 21, 4, 8}}},
		{5, crew{3, 4}, 22, 0, impl.Deal{From: 5, Commit: []int{24, 8, 7}, Shares: []int{14, 7, 1, 19}}},
	} {
		d := dealt(t, c.from, c.crew, c.secret, c.seed)
		if d.From != c.want.From || !slices.Equal(d.Commit, c.want.Commit) || !slices.Equal(d.Shares, c.want.Shares) {
			t.Errorf("DealMake(%d, %v, %d, %d) is %v, not %v", c.from, c.crew, c.secret, c.seed, d, c.want)
		}
	}
}

// Section of DealMake: false and the zero value if an argument is invalid.
func TestDealMakeOfInvalidArgumentsFails(t *testing.T) {
	check := func(from int, c crew, secret, seed int) {
		d, ok := impl.DealMake(from, c.need, c.many, secret, seed)
		if ok || d.From != 0 || len(d.Commit) != 0 || len(d.Shares) != 0 {
			t.Errorf("DealMake(%d, %d, %d, %d, %d) is %v, %v", from, c.need, c.many, secret, seed, d, ok)
		}
	}
	for _, c := range crews() {
		for _, bad := range outsideMembers() {
			check(bad, c, 5, 10)
		}
		for _, bad := range outsideField() {
			check(1, c, bad, 10)
		}
		for _, bad := range outsideSeeds() {
			check(5, c, 0, bad)
		}
	}
	for _, bad := range outsideCrews() {
		for _, from := range []int{1, 5, 0} {
			check(from, bad, 22, 999)
			check(from, bad, 23, 1000)
		}
	}
	for _, far := range []int{math.MinInt, math.MaxInt} {
		check(far, crew{far, far}, far, far)
	}
}

// P42: every set of members with wrong shares, wrong by every amount.
func TestDealBadHasExactlyTheMembersWithWrongShares(t *testing.T) {
	for _, c := range crews() {
		right := rightDeal(3, polynomialOf(c), c.many)
		for members := range 1 << c.many {
			var want []int
			for member := 1; member <= c.many; member++ {
				if members>>(member-1)&1 == 1 {
					want = append(want, member)
				}
			}
			for added := 1; added < 23; added++ {
				d := wrongDeal(right, members, added)
				if got := impl.DealBad(d, c.need, c.many); !slices.Equal(got, want) {
					t.Errorf("DealBad of %v is %v, not %v", d, got, want)
				}
			}
		}
	}
}

// P42, for deals whose shares have nothing to do with their commitments.
func TestDealBadIsWhoseSharesDoNotSatisfyCommitFits(t *testing.T) {
	for _, commit := range fewCommitments() {
		for many := len(commit); many <= 5; many++ {
			for _, shares := range tuples([]int{0, 1, 22}, many) {
				d := impl.Deal{From: 1, Commit: commit, Shares: shares}
				var want []int
				for i, share := range shares {
					if !impl.CommitFits(commit, i+1, share) {
						want = append(want, i+1)
					}
				}
				if got := impl.DealBad(d, len(commit), many); !slices.Equal(got, want) {
					t.Errorf("DealBad of %v is %v, not %v", d, got, want)
				}
			}
		}
	}
}

// Section of DealBad: empty if the deal is not well formed, although no share fits.
func TestDealBadOfDealsNotWellFormedIsEmpty(t *testing.T) {
	for _, m := range misshapedDeals() {
		for _, d := range []impl.Deal{m.deal, withSharesOneMore(m.deal)} {
			if got := impl.DealBad(d, m.crew.need, m.crew.many); len(got) != 0 {
				t.Errorf("DealBad(%v, %d, %d) is %v, not empty", d, m.crew.need, m.crew.many, got)
			}
		}
	}
}

// withSharesOneMore makes every share wrong that is a field element.
func withSharesOneMore(d impl.Deal) impl.Deal {
	shares := slices.Clone(d.Shares)
	for i, share := range shares {
		if share >= 0 && share < 23 {
			shares[i] = (share + 1) % 23
		}
	}
	return impl.Deal{From: d.From, Commit: d.Commit, Shares: shares}
}

// P43
func TestAChangedShareIsFoundOut(t *testing.T) {
	for _, c := range crews() {
		for _, secret := range secrets() {
			for _, seed := range []int{0, 22, 23, 999} {
				d := dealt(t, 2, c, secret, seed)
				for i, share := range d.Shares {
					for other := range 23 {
						if other == share {
							continue
						}
						changed := impl.Deal{From: 2, Commit: d.Commit, Shares: with(d.Shares, i, other)}
						if bad := impl.DealBad(changed, c.need, c.many); !slices.Equal(bad, []int{i + 1}) {
							t.Errorf("share %d of %v is not %d, but bad are %v", i+1, changed, share, bad)
						}
					}
				}
			}
		}
	}
}

// checkSharesAgree fails the test if some required number of shares does not give all shares.
func checkSharesAgree(t *testing.T, d impl.Deal, c crew) {
	t.Helper()
	for _, members := range ascendingMembers(c) {
		for member := 1; member <= c.many; member++ {
			if got := weighted(d.Shares, members, member); got != d.Shares[member-1] {
				t.Errorf("the shares of %v in %v give %d for member %d", members, d, got, member)
			}
		}
	}
}

// ascendingMembers lists each required number of members of the committee, in ascending order.
func ascendingMembers(c crew) [][]int {
	return slices.DeleteFunc(arrangements([]int{1, 2, 3, 4, 5}[:c.many], c.need), func(members []int) bool {
		return !slices.IsSorted(members)
	})
}

// weighted adds up the shares of the members, weighted by PolyLine at x.
func weighted(shares, members []int, x int) int {
	line := impl.PolyLine(members, x)
	sum := 0
	for i, member := range members {
		sum = impl.FieldSum(sum, impl.FieldMul(line[i], shares[member-1]))
	}
	return sum
}

// P44, for deals that no one made by a seed.
func TestSharesWithoutAComplaintDetermineEachOther(t *testing.T) {
	for _, p := range fewPolynomials() {
		for many := len(p); many <= 5; many++ {
			d := rightDeal(4, p, many)
			if bad := impl.DealBad(d, len(p), many); len(bad) != 0 || !impl.DealOk(d, len(p), many) {
				t.Fatalf("%v can complain about %v", bad, d)
			}
			checkSharesAgree(t, d, crew{len(p), many})
		}
	}
}

// P44: of all shares that could be dealt, no one can complain about exactly one list.
func TestOnlyOneListOfSharesHasNoComplaint(t *testing.T) {
	for _, c := range []crew{{1, 1}, {1, 2}, {2, 2}, {1, 3}, {2, 3}, {3, 3}} {
		commit := []int{24, 3, 17}[:c.need]
		silent := 0
		for _, shares := range tuples(upTo22(), c.many) {
			d := impl.Deal{From: 1, Commit: commit, Shares: shares}
			if len(impl.DealBad(d, c.need, c.many)) == 0 {
				silent++
				checkSharesAgree(t, d, c)
			}
		}
		if silent != 1 {
			t.Errorf("no one can complain about %d lists of shares of %v", silent, c)
		}
	}
}

// P45
func TestAWellFormedDealIsSoForItsCommitteeAlone(t *testing.T) {
	for _, c := range crews() {
		for _, d := range []impl.Deal{
			dealt(t, 1, c, 22, 999),
			dealt(t, 5, c, 0, 0),
			rightDeal(5, polynomialOf(c), c.many),
			withSharesOneMore(rightDeal(1, polynomialOf(c), c.many)),
		} {
			for need := -2; need <= 7; need++ {
				for many := -2; many <= 7; many++ {
					want := crew{need, many} == c
					if impl.DealOk(d, need, many) != want {
						t.Errorf("DealOk(%v, %d, %d) is not %v", d, need, many, want)
					}
				}
			}
		}
	}
}

// P45
func TestADealFromAnInvalidDealerIsNotWellFormed(t *testing.T) {
	for _, c := range crews() {
		d := dealt(t, 1, c, 5, 10)
		for from := 1; from <= 5; from++ {
			d.From = from
			if !impl.DealOk(d, c.need, c.many) {
				t.Errorf("%v is not well formed", d)
			}
		}
		for _, from := range outsideMembers() {
			d.From = from
			if impl.DealOk(d, c.need, c.many) {
				t.Errorf("%v is well formed", d)
			}
		}
	}
}

// Section of DealOk: false for whatever else is wrong, also where nothing else is.
func TestDealOkIsFalseForDealsNotWellFormed(t *testing.T) {
	for _, m := range misshapedDeals() {
		if impl.DealOk(m.deal, m.crew.need, m.crew.many) {
			t.Errorf("DealOk(%v, %d, %d)", m.deal, m.crew.need, m.crew.many)
		}
	}
}

// Section of DealOk: the shares need not fit.
func TestDealOkDoesNotAskWhetherSharesFit(t *testing.T) {
	for _, c := range crews() {
		for _, added := range []int{1, 22} {
			d := wrongDeal(rightDeal(5, polynomialOf(c), c.many), 31, added)
			if !impl.DealOk(d, c.need, c.many) {
				t.Errorf("%v is not well formed", d)
			}
		}
	}
}

// P46
func TestEnoughSharesGiveTheSecret(t *testing.T) {
	for _, c := range crews() {
		for secret := range 23 {
			for _, seed := range seeds() {
				d := dealt(t, 1, c, secret, seed)
				for _, members := range ascendingMembers(c) {
					if got := weighted(d.Shares, members, 0); got != secret {
						t.Errorf("the shares of %v in %v give %d, not the secret %d", members, d, got, secret)
					}
				}
			}
		}
	}
}

// P46, with the members in every order.
func TestEnoughSharesInAnyOrderGiveTheSecret(t *testing.T) {
	for _, c := range crews() {
		d := dealt(t, 1, c, 22, 999)
		for _, members := range arrangements([]int{1, 2, 3, 4, 5}[:c.many], c.need) {
			if got := weighted(d.Shares, members, 0); got != 22 {
				t.Errorf("the shares of %v in %v give %d", members, d, got)
			}
		}
	}
}

// P47
func TestIncreasingTheSecretIncreasesEveryShare(t *testing.T) {
	for _, c := range crews() {
		for _, seed := range seeds() {
			for secret := range 23 {
				d := dealt(t, 1, c, secret, seed)
				for more := secret; more < 23; more++ {
					e := dealt(t, 1, c, more, seed)
					for i, share := range d.Shares {
						if e.Shares[i] != impl.FieldSum(share, more-secret) {
							t.Errorf("with the seed %d, %d more make %v of %v", seed, more-secret, e, d)
						}
					}
				}
			}
		}
	}
}

// General rules: the same arguments give the same deal, whatever was made in between.
func TestDealMakeKeepsNoState(t *testing.T) {
	first := dealt(t, 1, crew{3, 5}, 7, 999)
	dealt(t, 2, crew{5, 5}, 22, 0)
	impl.DealMake(0, 0, 0, 0, 0)
	second := dealt(t, 1, crew{3, 5}, 7, 999)
	if !slices.Equal(first.Commit, second.Commit) || !slices.Equal(first.Shares, second.Shares) {
		t.Errorf("the deals are %v and %v", first, second)
	}
}

// General rules: results are new memory.
func TestMadeDealsShareNoMemory(t *testing.T) {
	for _, c := range slices.Concat(crews(), []crew{{0, 1}, {2, 1}}) {
		for _, seed := range []int{0, 999, 1000} {
			checkMemory(t, "DealPoly", func([][]int) []int {
				return impl.DealPoly(c.need, 22, seed)
			})
			checkMemory(t, "Commit of DealMake", func([][]int) []int {
				d, _ := impl.DealMake(1, c.need, c.many, 22, seed)
				return d.Commit
			})
			checkMemory(t, "Shares of DealMake", func([][]int) []int {
				d, _ := impl.DealMake(1, c.need, c.many, 22, seed)
				return d.Shares
			})
			d, _ := impl.DealMake(1, c.need, c.many, 22, seed)
			checkApart(t, "DealMake", d.Commit, d.Shares)
		}
	}
}

// General rules: results are new memory, and arguments stay as they are.
func TestGivenDealsShareNoMemory(t *testing.T) {
	check := func(d impl.Deal, c crew) {
		t.Helper()
		checkMemory(t, "DealOk and DealBad", func(given [][]int) []int {
			d := impl.Deal{From: d.From, Commit: given[0], Shares: given[1]}
			impl.DealOk(d, c.need, c.many)
			return impl.DealBad(d, c.need, c.many)
		}, d.Commit, d.Shares)
	}
	for _, c := range crews() {
		right := rightDeal(1, polynomialOf(c), c.many)
		for members := range 1 << c.many {
			check(wrongDeal(right, members, 9), c)
		}
	}
	for _, m := range misshapedDeals() {
		check(m.deal, m.crew)
	}
}
