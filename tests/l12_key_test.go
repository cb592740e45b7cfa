package tests

import (
	"fmt"
	"math"
	"slices"
	"testing"

	"loop.example/wardstaff/impl"
)

// polynomialBy gives each dealer a polynomial of its own.
func polynomialBy(from, need int) []int {
	return [][]int{{22, 0, 7, 13, 1}, {5, 18, 0, 2, 22}, {0, 1, 1, 9, 4}, {13, 22, 21, 0, 6}, {7, 7, 19, 3, 0}}[from-1][:need]
}

// rightDeals are the deals of the dealers, by which no one is wronged.
func rightDeals(c crew, dealers ...int) []impl.Deal {
	var list []impl.Deal
	for _, from := range dealers {
		list = append(list, rightDeal(from, polynomialBy(from, c.need), c.many))
	}
	return list
}

// sumBy is the sum of the polynomials of the dealers.
func sumBy(c crew, dealers []int) []int {
	sum := make([]int, c.need)
	for _, from := range dealers {
		for i, n := range polynomialBy(from, c.need) {
			sum[i] = (sum[i] + n) % 23
		}
	}
	return sum
}

// upTo lists the numbers from 1 to n.
func upTo(n int) []int {
	var list []int
	for i := 1; i <= n; i++ {
		list = append(list, i)
	}
	return list
}

// inSet lists the numbers from 1 to 5 whose bits are set, that of 1 being the lowest.
func inSet(set int) []int {
	return slices.DeleteFunc(upTo(5), func(n int) bool { return set>>(n-1)&1 == 0 })
}

// keyMade fails the test if there is no key.
func keyMade(t *testing.T, c crew, deals []impl.Deal, answers []impl.Answer) impl.Key {
	t.Helper()
	k, ok := impl.KeyOf(c.need, c.many, deals, answers)
	if !ok || k.Need != c.need || k.Many != c.many {
		t.Fatalf("KeyOf(%d, %d, %v, %v) is %v, %v", c.need, c.many, deals, answers, k, ok)
	}
	return k
}

// keyBy is the key that the polynomials of the dealers give, made without the program.
func keyBy(c crew, dealers []int) impl.Key {
	return impl.Key{Need: c.need, Many: c.many, Good: dealers, Commit: commitmentTo(sumBy(c, dealers))}
}

func sameKey(a, b impl.Key) bool {
	return a.Need == b.Need && a.Many == b.Many && slices.Equal(a.Good, b.Good) && slices.Equal(a.Commit, b.Commit)
}

func checkNoKey(t *testing.T, c crew, deals []impl.Deal, answers []impl.Answer) {
	t.Helper()
	k, ok := impl.KeyOf(c.need, c.many, deals, answers)
	if ok || !sameKey(k, impl.Key{}) {
		t.Errorf("KeyOf(%d, %d, %v, %v) is %v, %v", c.need, c.many, deals, answers, k, ok)
	}
}

func checkNoShare(t *testing.T, k impl.Key, deals []impl.Deal, answers []impl.Answer, member int) {
	t.Helper()
	if share, ok := impl.KeyShare(k, deals, answers, member); share != 0 || ok {
		t.Errorf("KeyShare(%v, %v, %v, %d) is %d, %v", k, deals, answers, member, share, ok)
	}
}

func checkShare(t *testing.T, k impl.Key, deals []impl.Deal, answers []impl.Answer, member, want int) {
	t.Helper()
	if share, ok := impl.KeyShare(k, deals, answers, member); share != want || !ok {
		t.Errorf("KeyShare(%v, %v, %v, %d) is %d, %v, not %d", k, deals, answers, member, share, ok, want)
	}
}

// answersWith are the answers of the dealer to the member, one for each share.
func answersWith(from, to int, shares ...int) []impl.Answer {
	var list []impl.Answer
	for _, share := range shares {
		list = append(list, impl.Answer{From: from, To: to, Share: share})
	}
	return list
}

// rightAnswers answer all members of the committee by the dealers' polynomials.
func rightAnswers(c crew, dealers ...int) []impl.Answer {
	var list []impl.Answer
	for _, from := range dealers {
		for to := 1; to <= c.many; to++ {
			list = append(list, impl.Answer{From: from, To: to, Share: valueAt(polynomialBy(from, c.need), to)})
		}
	}
	return list
}

// wrongShares lists what is not the share, numbers that are the same modulo 23 included.
func wrongShares(share int) []int {
	list := []int{share + 23, share - 23, share + 23000, -1, 23, math.MinInt, math.MaxInt}
	for added := 1; added < 23; added++ {
		list = append(list, (share+added)%23)
	}
	return list
}

// idleAnswers change nothing: they are from no dealer that deals, to no member that complains, or wrong.
func idleAnswers(c crew) []impl.Answer {
	var list []impl.Answer
	for _, from := range []int{0, 1, 2, 3, 4, 5, 6, -1, math.MinInt, math.MaxInt} {
		for _, to := range []int{0, c.many + 1, -1, math.MinInt, math.MaxInt} {
			list = append(list, answersWith(from, to, 0, 22, math.MinInt, math.MaxInt)...)
		}
	}
	for _, from := range []int{0, 6, -1, math.MinInt, math.MaxInt} {
		list = append(list, answersWith(from, 1, upTo22()...)...)
	}
	for from := 1; from <= 5; from++ {
		for to := 1; to <= c.many; to++ {
			list = append(list, answersWith(from, to, wrongShares(valueAt(polynomialBy(from, c.need), to))...)...)
		}
	}
	return list
}

// shareCase is whether the dealt share of a member is wrong, and how that is answered.
type shareCase struct {
	wrong   bool
	answers func(from, to, share int) []impl.Answer
}

// shareCases lists the cases of one member: answered not at all, right, wrong, both, by or to someone else, and by what is the same modulo 23.
func shareCases() []shareCase {
	shares := func(added ...int) func(from, to, share int) []impl.Answer {
		return func(from, to, share int) []impl.Answer {
			var list []int
			for _, n := range added {
				list = append(list, (share+n)%23)
			}
			return answersWith(from, to, list...)
		}
	}
	return []shareCase{
		{false, shares()},
		{true, shares()},
		{true, shares(0)},
		{true, shares(1)},
		{true, shares(1, 22, 0)},
		{true, shares(0, 5)},
		{false, shares(1)},
		{true, func(from, to, share int) []impl.Answer { return answersWith(from+1, to, share) }},
		{true, func(from, to, share int) []impl.Answer { return answersWith(from, to+1, share) }},
		{true, func(from, to, share int) []impl.Answer { return answersWith(to, from, share) }},
		{true, func(from, to, share int) []impl.Answer { return answersWith(from, to, share+23, share-23) }},
	}
}

// answeredDeal is a deal with the answers to it.
type answeredDeal struct {
	deal    impl.Deal
	answers []impl.Answer
}

// answeredDeals combines the cases of all members of the committee in every way, with fewer cases where there are many members.
func answeredDeals(from int, c crew) []answeredDeal {
	cases := shareCases()
	if c.many > 3 {
		cases = cases[:12-c.many]
	}
	if c.many == 5 {
		cases = cases[:5]
	}
	var list []answeredDeal
	right := rightDeal(from, polynomialBy(from, c.need), c.many)
	for _, choice := range tuples(upTo(len(cases)), c.many) {
		d := impl.Deal{From: from, Commit: right.Commit, Shares: slices.Clone(right.Shares)}
		var answers []impl.Answer
		for i, n := range choice {
			share := right.Shares[i]
			if cases[n-1].wrong {
				d.Shares[i] = (share + 1 + i) % 23
			}
			answers = append(answers, cases[n-1].answers(from, i+1, share)...)
		}
		list = append(list, answeredDeal{d, answers})
	}
	return list
}

// isAccepted reports whether the member is dealt or answered the value of the dealer's polynomial.
func isAccepted(d impl.Deal, answers []impl.Answer, member int) bool {
	right := valueAt(polynomialBy(d.From, len(d.Commit)), member)
	return d.Shares[member-1] == right || slices.Contains(answers, impl.Answer{From: d.From, To: member, Share: right})
}

// P48
func TestKeyGoodIsTrueIfEachShareOrSomeAnswerFits(t *testing.T) {
	for _, c := range crews() {
		from := c.many
		good := 0
		list := answeredDeals(from, c)
		for _, a := range list {
			want := true
			for member := 1; member <= c.many; member++ {
				want = want && isAccepted(a.deal, a.answers, member)
			}
			if want {
				good++
			}
			for _, answers := range [][]impl.Answer{a.answers, answersReversed(a.answers)} {
				if impl.KeyGood(a.deal, answers, c.need, c.many) != want {
					t.Errorf("KeyGood(%v, %v, %d, %d) is not %v", a.deal, answers, c.need, c.many, want)
				}
			}
		}
		if good == 0 || good == len(list) {
			t.Errorf("%d of %d deals to %v are good", good, len(list), c)
		}
	}
}

func answersReversed(answers []impl.Answer) []impl.Answer {
	copied := slices.Clone(answers)
	slices.Reverse(copied)
	return copied
}

// P48, for every deal that was dealt as it was made.
func TestKeyGoodIsTrueForMadeDeals(t *testing.T) {
	for _, c := range crews() {
		wrong := answersWith(1, 1, -1, 23)
		for from := 1; from <= c.many; from++ {
			for _, secret := range secrets() {
				for _, seed := range seeds() {
					d := dealt(t, from, c, secret, seed)
					if !impl.KeyGood(d, nil, c.need, c.many) || !impl.KeyGood(d, wrong, c.need, c.many) {
						t.Errorf("KeyGood(%v, _, %d, %d) is false", d, c.need, c.many)
					}
				}
			}
		}
	}
}

// P48: all 23 shares and all 23 answers of one member.
func TestKeyGoodByTheShareAndTheAnswerOfOneMember(t *testing.T) {
	for _, c := range []crew{{1, 1}, {2, 2}, {2, 5}, {5, 5}} {
		for from := 1; from <= c.many; from++ {
			right := rightDeals(c, from)[0]
			for i, share := range right.Shares {
				for _, dealt := range upTo22() {
					d := impl.Deal{From: from, Commit: right.Commit, Shares: with(right.Shares, i, dealt)}
					for _, answer := range slices.Concat(upTo22(), wrongShares(share)) {
						want := dealt == share || answer == share
						if impl.KeyGood(d, answersWith(from, i+1, answer), c.need, c.many) != want {
							t.Errorf("KeyGood of %v, with the answer %d to %d, is not %v", d, answer, i+1, want)
						}
					}
				}
			}
		}
	}
}

// Section of KeyGood: the dealer is at most many.
func TestKeyGoodIsFalseForDealersOutsideTheCommittee(t *testing.T) {
	for _, c := range crews() {
		for from := 1; from <= 5; from++ {
			d := rightDeals(c, from)[0]
			answers := rightAnswers(c, from)
			if want := from <= c.many; impl.KeyGood(d, nil, c.need, c.many) != want || impl.KeyGood(d, answers, c.need, c.many) != want {
				t.Errorf("KeyGood(%v, _, %d, %d) is not %v", d, c.need, c.many, want)
			}
		}
	}
}

// Section of KeyGood: the deal is well formed, which no answer changes.
func TestKeyGoodIsFalseForDealsNotWellFormed(t *testing.T) {
	for _, m := range misshapedDeals() {
		var answers []impl.Answer
		for to := 1; to <= 5; to++ {
			answers = append(answers, answersWith(m.deal.From, to, upTo22()...)...)
		}
		if impl.KeyGood(m.deal, nil, m.crew.need, m.crew.many) || impl.KeyGood(m.deal, answers, m.crew.need, m.crew.many) {
			t.Errorf("KeyGood(%v, _, %d, %d)", m.deal, m.crew.need, m.crew.many)
		}
	}
}

// P49: every set of wronged members, the answers to whom are missing, wrong, or right for all but one.
func TestADealThatSomeoneComplainsAboutIsDisqualified(t *testing.T) {
	for _, c := range crews() {
		for from := 1; from <= c.many; from++ {
			for wronged := 1; wronged < 1<<c.many; wronged++ {
				d := wrongDeal(rightDeals(c, from)[0], wronged, 9)
				members := impl.DealBad(d, c.need, c.many)
				if !slices.Equal(members, inSet(wronged)) {
					t.Fatalf("DealBad of %v is %v", d, members)
				}
				checkDisqualified(t, c, d, nil)
				checkDisqualified(t, c, d, idleAnswers(c))
				for _, left := range members {
					answers := slices.DeleteFunc(rightAnswers(c, from), func(a impl.Answer) bool { return a.To == left })
					checkDisqualified(t, c, d, answers)
					checkDisqualified(t, c, d, slices.Concat(idleAnswers(c), answers))
				}
			}
		}
	}
}

// checkDisqualified fails the test if the deal counts, alone or beside right deals of all others.
func checkDisqualified(t *testing.T, c crew, d impl.Deal, answers []impl.Answer) {
	t.Helper()
	if impl.KeyGood(d, answers, c.need, c.many) {
		t.Errorf("KeyGood(%v, %v, %d, %d)", d, answers, c.need, c.many)
	}
	deals := rightDeals(c, upTo(c.many)...)
	deals[d.From-1] = d
	others := slices.DeleteFunc(upTo(c.many), func(n int) bool { return n == d.From })
	if len(others) < c.need {
		checkNoKey(t, c, deals, answers)
	} else if k := keyMade(t, c, deals, answers); !sameKey(k, keyBy(c, others)) {
		t.Errorf("KeyOf(%d, %d, %v, %v) is %v", c.need, c.many, deals, answers, k)
	}
}

// P49: a deal by which no one is wronged counts whatever is answered.
func TestAnHonestDealIsNotDisqualifiedByWrongAnswers(t *testing.T) {
	for _, c := range crews() {
		deals := rightDeals(c, upTo(c.many)...)
		if k := keyMade(t, c, deals, idleAnswers(c)); !sameKey(k, keyBy(c, upTo(c.many))) {
			t.Errorf("the key of %v is %v", deals, k)
		}
	}
}

// states of the deal of one dealer.
const (
	stateNone = iota
	stateRight
	stateAnswered
	stateWrong
	stateMisshaped
)

// scene is a list of deals with answers, and the dealers whose deals are right or were answered right, whether they are of the committee or not.
type scene struct {
	deals   []impl.Deal
	answers []impl.Answer
	right   []int
}

// good lists the dealers whose deals count.
func (s scene) good(c crew) []int {
	return slices.DeleteFunc(slices.Clone(s.right), func(from int) bool { return from > c.many })
}

// sceneOf makes the scene in which dealer i+1 is in the state states[i].
func sceneOf(c crew, states []int) scene {
	var s scene
	for i, state := range states {
		from := i + 1
		d := rightDeals(c, from)[0]
		wronged := []int{1, 31, 6, 16, 9}[i]&(1<<c.many-1) | 1<<(i%c.many)
		switch state {
		case stateNone:
			s.answers = append(s.answers, rightAnswers(c, from)...)
			continue
		case stateAnswered:
			d = wrongDeal(d, wronged, 1+i)
			s.answers = append(s.answers, answersWith(from, 1, d.Shares[0])...)
			s.answers = append(s.answers, rightAnswers(c, from)...)
			s.answers = append(s.answers, answersWith(from, 1, 0, 22)...)
		case stateWrong:
			d = wrongDeal(d, wronged, 1+i)
			s.answers = append(s.answers, answersWith(from, inSet(wronged)[0], d.Shares[inSet(wronged)[0]-1])...)
		case stateMisshaped:
			d.Shares = append(d.Shares, 0)
			s.answers = append(s.answers, rightAnswers(c, from)...)
		}
		if state == stateRight || state == stateAnswered {
			s.right = append(s.right, from)
		}
		s.deals = append(s.deals, d)
	}
	return s
}

// scenes combines the states of all dealers of the committee, and of one that is not of it.
func scenes(c crew) []scene {
	var list []scene
	for _, states := range tuples([]int{stateNone, stateRight, stateAnswered, stateWrong, stateMisshaped}, min(c.many+1, 5)) {
		list = append(list, sceneOf(c, states))
	}
	return list
}

// keyedScenes leaves out the scenes of which there is no key.
func keyedScenes(c crew) []scene {
	return slices.DeleteFunc(scenes(c), func(s scene) bool { return len(s.good(c)) < c.need })
}

// P50 and P53, for deals that are ordered.
func TestKeyOfHasTheGoodDealersAndTheProductOfTheirCommitments(t *testing.T) {
	for _, c := range crews() {
		made := 0
		for _, s := range scenes(c) {
			good := s.good(c)
			if len(good) < c.need {
				checkNoKey(t, c, s.deals, s.answers)
				continue
			}
			made++
			if k := keyMade(t, c, s.deals, s.answers); !sameKey(k, keyBy(c, good)) || !impl.KeyOk(k) {
				t.Errorf("KeyOf(%d, %d, %v, %v) is %v, not %v", c.need, c.many, s.deals, s.answers, k, keyBy(c, good))
			}
		}
		if made == 0 {
			t.Errorf("there is no key of %v", c)
		}
	}
}

// P50, by the functions that the promise names.
func TestKeyOfIsWhatKeyGoodAndCommitSumSay(t *testing.T) {
	for _, c := range crews() {
		for _, s := range keyedScenes(c) {
			k := keyMade(t, c, s.deals, s.answers)
			var good, commit []int
			for _, d := range s.deals {
				if !impl.KeyGood(d, s.answers, c.need, c.many) {
					continue
				}
				if good = append(good, d.From); commit == nil {
					commit = d.Commit
				} else {
					commit = impl.CommitSum(commit, d.Commit)
				}
			}
			if !sameKey(k, impl.Key{Need: c.need, Many: c.many, Good: good, Commit: commit}) || len(k.Good) < c.need {
				t.Errorf("KeyOf(%d, %d, %v, %v) is %v, but good are %v", c.need, c.many, s.deals, s.answers, k, good)
			}
		}
	}
}

// P50: just as many deals count as members are needed, and one fewer.
func TestKeyOfNeedsAsManyDealsAsMembers(t *testing.T) {
	for _, c := range crews() {
		for set := range 1 << c.many {
			dealers := inSet(set)
			deals := rightDeals(c, dealers...)
			if len(dealers) < c.need {
				checkNoKey(t, c, deals, nil)
				checkNoKey(t, c, deals, rightAnswers(c, 1, 2, 3, 4, 5))
			} else if k := keyMade(t, c, deals, nil); !sameKey(k, keyBy(c, dealers)) {
				t.Errorf("the key of the dealers %v is %v", dealers, k)
			}
		}
	}
}

// P50 and P52, as values.
func TestKeyOfAtNamedValues(t *testing.T) {
	first := impl.Deal{From: 1, Commit: []int{32, 37}, Shares: []int{15, 2, 12}}
	second := impl.Deal{From: 2, Commit: []int{8, 2}, Shares: []int{4, 5, 6}}
	wronged := impl.Deal{From: 2, Commit: []int{8, 2}, Shares: []int{4, 6, 6}}
	both := impl.Key{Need: 2, Many: 3, Good: []int{1, 2}, Commit: []int{21, 27}}
	for _, c := range []struct {
		need    int
		deals   []impl.Deal
		answers []impl.Answer
		want    impl.Key
		ok      bool
	}{
		{2, []impl.Deal{first, second}, nil, both, true},
		{2, []impl.Deal{first, wronged}, nil, impl.Key{}, false},
		{2, []impl.Deal{first, wronged}, answersWith(2, 2, 5), both, true},
		{2, []impl.Deal{first, wronged}, answersWith(2, 2, 6), impl.Key{}, false},
		{2, []impl.Deal{first, wronged}, answersWith(2, 2, 6, 5), both, true},
		{2, []impl.Deal{first, wronged}, answersWith(2, 2, 5, 6), both, true},
		{2, []impl.Deal{first, wronged}, answersWith(1, 2, 5), impl.Key{}, false},
		{2, []impl.Deal{first, wronged}, answersWith(2, 3, 5), impl.Key{}, false},
		{2, []impl.Deal{second, first}, nil, impl.Key{}, false},
		{2, []impl.Deal{first}, nil, impl.Key{}, false},
		{1, []impl.Deal{first, second}, nil, impl.Key{}, false},
		{2, nil, nil, impl.Key{}, false},
	} {
		if k, ok := impl.KeyOf(c.need, 3, c.deals, c.answers); ok != c.ok || !sameKey(k, c.want) {
			t.Errorf("KeyOf(%d, 3, %v, %v) is %v, %v, not %v, %v", c.need, c.deals, c.answers, k, ok, c.want, c.ok)
		}
	}
	for i, want := range []int{19, 7, 18} {
		checkShare(t, both, []impl.Deal{first, wronged}, answersWith(2, 2, 6, 5), i+1, want)
	}
	if impl.KeyPub(both) != 21 {
		t.Errorf("KeyPub of %v is %d", both, impl.KeyPub(both))
	}
}

// P51 and P54
func TestKeyShareOfEachMemberSucceedsAndFits(t *testing.T) {
	for _, c := range crews() {
		for _, s := range keyedScenes(c) {
			k := keyMade(t, c, s.deals, s.answers)
			for member := 1; member <= c.many; member++ {
				share, ok := impl.KeyShare(k, s.deals, s.answers, member)
				if !ok || !impl.KeyFits(k, member, share) || share != valueAt(sumBy(c, s.good(c)), member) {
					t.Errorf("KeyShare(%v, %v, %v, %d) is %d, %v", k, s.deals, s.answers, member, share, ok)
				}
			}
		}
	}
}

// P51, for the answers to one deal in every combination.
func TestKeyShareFitsHoweverADealIsAnswered(t *testing.T) {
	for _, c := range []crew{{1, 1}, {1, 2}, {2, 2}, {1, 3}, {2, 3}, {3, 3}} {
		deals := rightDeals(c, upTo(c.many)...)
		for _, a := range answeredDeals(1, c) {
			deals[0] = a.deal
			k, ok := impl.KeyOf(c.need, c.many, deals, a.answers)
			if !ok {
				continue
			}
			for member := 1; member <= c.many; member++ {
				if share, ok := impl.KeyShare(k, deals, a.answers, member); !ok || !impl.KeyFits(k, member, share) {
					t.Errorf("KeyShare(%v, %v, %v, %d) is %d, %v", k, deals, a.answers, member, share, ok)
				}
			}
		}
	}
}

// P52
func TestThePublicKeyIsThatOfTheSumOfTheSecrets(t *testing.T) {
	for _, c := range crews() {
		for _, seed := range []int{0, 22, 23, 999} {
			for first := range 23 {
				var deals []impl.Deal
				sum := 0
				for from := 1; from <= c.many; from++ {
					secret := (first*from + from - 1) % 23
					sum += secret
					deals = append(deals, dealt(t, from, c, secret, (seed+100*from)%1000))
				}
				k := keyMade(t, c, deals, nil)
				if impl.KeyPub(k) != impl.GroupOf(sum%23) || !slices.Equal(k.Good, upTo(c.many)) {
					t.Errorf("the key of %v is %v, with the secrets' sum %d", deals, k, sum)
				}
				checkOtherSecrets(t, c, k, deals, first)
			}
		}
	}
}

// checkOtherSecrets fails the test if another secret of the first dealer gives the same key.
func checkOtherSecrets(t *testing.T, c crew, k impl.Key, deals []impl.Deal, secret int) {
	t.Helper()
	deals = slices.Clone(deals)
	for other := range 23 {
		for _, seed := range []int{0, 100, 999} {
			deals[0] = dealt(t, 1, c, other, seed)
			if same := impl.KeyPub(keyMade(t, c, deals, nil)) == impl.KeyPub(k); same != (other == secret) {
				t.Errorf("the first secret %d, not %d, of %v gives the same key: %v", other, secret, deals, same)
			}
		}
	}
}

// P53: the dealers in every order, repeated ones included.
func TestKeyOfFailsIfTheDealsAreNotOrdered(t *testing.T) {
	for _, c := range crews() {
		for length := 0; length <= 5; length++ {
			for _, dealers := range tuples(upTo(5), length) {
				ordered := slices.IsSorted(dealers) && len(slices.Compact(slices.Clone(dealers))) == length
				counted := slices.DeleteFunc(slices.Clone(dealers), func(from int) bool { return from > c.many })
				deals := rightDeals(c, dealers...)
				if !ordered || len(counted) < c.need {
					checkNoKey(t, c, deals, nil)
				} else if k := keyMade(t, c, deals, nil); !sameKey(k, keyBy(c, counted)) {
					t.Errorf("the key of the dealers %v is %v", dealers, k)
				}
			}
		}
	}
}

// P53: dealers that no committee has count as little as those that are not of this one, but they are ordered all the same.
func TestKeyOfAllowsDealersOfNoCommittee(t *testing.T) {
	for _, c := range crews() {
		right := rightDeals(c, 1, 2, 3, 4)
		for _, low := range []int{0, -1, math.MinInt} {
			for _, high := range []int{6, 7, math.MaxInt} {
				dealers := upTo(min(c.many, 3))
				deals := slices.Concat([]impl.Deal{{From: low}}, right[:len(dealers)], []impl.Deal{{From: high, Commit: right[0].Commit, Shares: right[0].Shares}})
				if len(dealers) < c.need {
					checkNoKey(t, c, deals, nil)
				} else if k := keyMade(t, c, deals, nil); !sameKey(k, keyBy(c, dealers)) {
					t.Errorf("the key of %v is %v", deals, k)
				}
				slices.Reverse(deals)
				checkNoKey(t, c, deals, nil)
				checkNoKey(t, c, slices.Concat(right[:1], []impl.Deal{{From: low}}), nil)
				checkNoKey(t, c, slices.Concat([]impl.Deal{{From: high}}, right[:1]), nil)
				checkNoKey(t, c, slices.Concat(right[:1], []impl.Deal{{From: high}, {From: high}}), nil)
			}
		}
	}
}

// tooManyDeals are ordered but for their number.
func tooManyDeals(c crew) [][]impl.Deal {
	right := rightDeals(c, 1, 2, 3, 4, 5)
	return [][]impl.Deal{
		append(slices.Clone(right), impl.Deal{From: 6}),
		append([]impl.Deal{{From: 0}}, right...),
		append(slices.Clone(right), impl.Deal{From: 6}, impl.Deal{From: math.MaxInt}),
		append([]impl.Deal{{From: math.MinInt}, {From: -1}, {From: 0}}, right...),
	}
}

// unorderedDeals are lists of deals, each well formed, with dealers that are not ascending.
func unorderedDeals(c crew) [][]impl.Deal {
	return [][]impl.Deal{
		rightDeals(c, 2, 1), rightDeals(c, 1, 1), rightDeals(c, 5, 5), rightDeals(c, 1, 2, 3, 5, 4), rightDeals(c, 2, 1, 3, 4, 5),
		rightDeals(c, 1, 2, 2, 3), rightDeals(c, 1, 2, 3, 4, 4), rightDeals(c, 5, 4, 3, 2, 1), rightDeals(c, 3, 3, 3), rightDeals(c, 1, 3, 2),
	}
}

// Section of KeyOf: at most MemberMax deals.
func TestKeyOfTooManyDealsFails(t *testing.T) {
	for _, c := range crews() {
		for _, deals := range slices.Concat(tooManyDeals(c), unorderedDeals(c)) {
			checkNoKey(t, c, deals, nil)
			checkNoKey(t, c, deals, rightAnswers(c, 1, 2, 3, 4, 5))
		}
	}
}

// Section of KeyOf: the committee is valid.
func TestKeyOfAnInvalidCommitteeFails(t *testing.T) {
	for _, bad := range outsideCrews() {
		checkNoKey(t, bad, nil, nil)
		for _, c := range crews() {
			deals := rightDeals(c, upTo(c.many)...)
			checkNoKey(t, bad, deals, nil)
			checkNoKey(t, bad, deals, rightAnswers(c, upTo(c.many)...))
		}
	}
}

// Section of KeyOf: deals to another committee do not count.
func TestKeyOfDealsToAnotherCommitteeFails(t *testing.T) {
	for _, c := range crews() {
		deals := rightDeals(c, 1, 2, 3, 4, 5)
		for _, other := range crews() {
			if other != c {
				checkNoKey(t, other, deals, rightAnswers(other, 1, 2, 3, 4, 5))
			}
		}
	}
}

// P54: the key's dealers are any, whether there is a key of the deals or not.
func TestKeyShareIsTheSumOfTheSharesOfTheKeysDealers(t *testing.T) {
	for _, c := range crews() {
		answers := slices.Concat(answersWith(1, 1, 0, 22), rightAnswers(c, 1, 2, 3, 4, 5), answersWith(5, c.many, 0, 22))
		for set := range 1 << 5 {
			k := impl.Key{Need: c.need, Many: c.many, Good: inSet(set), Commit: commitmentTo(polynomialOf(c))}
			for dealt := range 1 << 5 {
				deals := rightDeals(c, inSet(dealt)...)
				wronged := slices.Clone(deals)
				for i, d := range deals {
					wronged[i] = wrongDeal(d, []int{1, 2, 31, 12, 10}[d.From-1], 3)
				}
				for member := 1; member <= c.many; member++ {
					want := valueAt(sumBy(c, inSet(set&dealt)), member)
					checkShare(t, k, deals, nil, member, want)
					checkShare(t, k, deals, answers, member, want)
					checkShare(t, k, wronged, answers, member, want)
				}
			}
		}
	}
}

// P54: of what is wrong, only the share of this member matters.
func TestKeyShareOfAMemberThatAcceptsNoShareFails(t *testing.T) {
	for _, c := range crews() {
		for from := 1; from <= 5; from++ {
			k := impl.Key{Need: c.need, Many: c.many, Good: []int{from}, Commit: commitmentTo(polynomialOf(c))}
			deals := rightDeals(c, 1, 2, 3, 4, 5)
			for wronged := range 1 << c.many {
				deals[from-1] = wrongDeal(rightDeals(c, from)[0], wronged, 11)
				for member := 1; member <= c.many; member++ {
					right := valueAt(polynomialBy(from, c.need), member)
					checkShare(t, k, deals, answersWith(from, member, (right+1)%23, right), member, right)
					others := slices.DeleteFunc(rightAnswers(c, 1, 2, 3, 4, 5), func(a impl.Answer) bool { return a.From == from && a.To == member })
					if !slices.Contains(inSet(wronged), member) {
						checkShare(t, k, deals, nil, member, right)
						checkShare(t, k, deals, answersWith(from, member, (right+1)%23), member, right)
						checkShare(t, k, deals, idleAnswers(c), member, right)
						continue
					}
					checkNoShare(t, k, deals, nil, member)
					checkNoShare(t, k, deals, others, member)
					checkNoShare(t, k, deals, idleAnswers(c), member)
					checkNoShare(t, impl.Key{Need: c.need, Many: c.many, Good: upTo(5), Commit: k.Commit}, deals, others, member)
				}
			}
		}
	}
}

// Section of KeyShare: of the deals, those of other dealers do not matter, whatever is wrong with them.
func TestKeyShareLooksAtTheKeysDealersAlone(t *testing.T) {
	for _, c := range crews() {
		for good := 1; good <= 5; good++ {
			k := impl.Key{Need: c.need, Many: c.many, Good: []int{good}, Commit: commitmentTo(polynomialOf(c))}
			for bad := 1; bad <= 5; bad++ {
				for _, d := range spoiledDeals(c, bad) {
					deals := rightDeals(c, 1, 2, 3, 4, 5)
					deals[bad-1] = d
					answers := rightAnswers(c, 1, 2, 3, 4, 5)
					for member := 1; member <= c.many; member++ {
						if good == bad {
							checkNoShare(t, k, deals, answers, member)
							checkNoShare(t, impl.Key{Need: c.need, Many: c.many, Good: upTo(5), Commit: k.Commit}, deals, answers, member)
						} else {
							checkShare(t, k, deals, answers, member, valueAt(polynomialBy(good, c.need), member))
						}
					}
				}
			}
		}
	}
}

// spoiledDeals lists deals by the dealer that are not well formed.
func spoiledDeals(c crew, from int) []impl.Deal {
	d := rightDeals(c, from)[0]
	return []impl.Deal{
		{From: from},
		{From: from, Commit: d.Commit, Shares: d.Shares[1:]},
		{From: from, Commit: d.Commit, Shares: append(slices.Clone(d.Shares), 0)},
		{From: from, Commit: d.Commit[1:], Shares: d.Shares},
		{From: from, Commit: append(slices.Clone(d.Commit), 1), Shares: d.Shares},
		{From: from, Commit: with(d.Commit, c.need-1, 0), Shares: d.Shares},
		{From: from, Commit: d.Commit, Shares: with(d.Shares, 0, 23)},
		{From: from, Commit: d.Commit, Shares: with(d.Shares, c.many-1, -1)},
	}
}

// Section of KeyShare: a dealer of Good without a deal contributes nothing.
func TestKeyShareWithoutDealsIs0(t *testing.T) {
	for _, c := range crews() {
		for set := range 1 << 5 {
			k := impl.Key{Need: c.need, Many: c.many, Good: inSet(set), Commit: commitmentTo(polynomialOf(c))}
			for member := 1; member <= c.many; member++ {
				checkShare(t, k, nil, nil, member, 0)
				checkShare(t, k, []impl.Deal{}, rightAnswers(c, 1, 2, 3, 4, 5), member, 0)
				checkShare(t, k, []impl.Deal{{From: math.MinInt}, {From: 0}, {From: 6}, {From: 7}, {From: math.MaxInt}}, nil, member, 0)
			}
		}
	}
}

// outsideMembersOf lists numbers that no member of the committee has.
func outsideMembersOf(c crew) []int {
	return slices.Concat(outsideMembers(), []int{c.many + 1, -c.many})
}

// Section of KeyShare: false for members that there are not, and for deals that are not ordered.
func TestKeyShareOfInvalidArgumentsFails(t *testing.T) {
	for _, c := range crews() {
		deals := rightDeals(c, upTo(c.many)...)
		answers := rightAnswers(c, upTo(c.many)...)
		k := keyMade(t, c, deals, answers)
		for _, member := range outsideMembersOf(c) {
			checkNoShare(t, k, deals, answers, member)
			checkNoShare(t, k, nil, nil, member)
		}
		for member := 1; member <= c.many; member++ {
			for _, list := range slices.Concat(tooManyDeals(c), unorderedDeals(c)) {
				checkNoShare(t, k, list, answers, member)
			}
			none := impl.Key{Need: c.need, Many: c.many, Commit: k.Commit}
			for _, list := range slices.Concat(tooManyDeals(c), unorderedDeals(c)) {
				checkNoShare(t, none, list, answers, member)
			}
			for _, bad := range invalidKeys(c) {
				checkNoShare(t, bad, deals, answers, member)
				checkNoShare(t, bad, nil, nil, member)
			}
		}
	}
	checkNoShare(t, impl.Key{}, nil, nil, 0)
	checkNoShare(t, impl.Key{}, nil, nil, 1)
}

// validKeys lists keys of the committee with any dealers and commitments.
func validKeys(c crew) []impl.Key {
	var list []impl.Key
	for _, good := range [][]int{nil, {}, {1}, {5}, {1, 2}, {3, 5}, {2, 3, 4}, {1, 2, 3, 4, 5}, upTo(c.many), upTo(c.need)} {
		for _, commit := range [][]int{
			commitmentTo(polynomialOf(c)),
			commitmentTo(make([]int, c.need)),
			[]int{24, 24, 24, 24, 24}[:c.need],
			[]int{2, 1, 1, 1, 36}[:c.need],
			[]int{1, 2, 3, 4, 6}[:c.need],
		} {
			list = append(list, impl.Key{Need: c.need, Many: c.many, Good: good, Commit: commit})
		}
	}
	return list
}

// invalidKeys lists keys with one thing wrong each: the committee, the commitment or the dealers.
func invalidKeys(c crew) []impl.Key {
	commit := commitmentTo(polynomialOf(c))
	var list []impl.Key
	add := func(other crew, good, commit []int) {
		list = append(list, impl.Key{Need: other.need, Many: other.many, Good: good, Commit: commit})
	}
	for _, bad := range outsideCrews() {
		add(bad, []int{1}, commit)
		if bad.need >= 0 && bad.need <= 6 { // a commitment that would fit
			add(bad, []int{1}, []int{1, 2, 3, 4, 6, 7}[:bad.need])
		}
	}
	for _, bad := range [][]int{nil, {}, commit[1:], append(slices.Clone(commit), 1), append(slices.Clone(commit), 24), make([]int, c.need)} {
		add(c, upTo(c.many), bad)
	}
	for i := range commit {
		for _, bad := range outsideGroup() {
			add(c, upTo(c.many), with(commit, i, bad))
		}
	}
	for _, bad := range [][]int{{1, 1}, {2, 1}, {5, 4}, {5, 5}, {1, 2, 2}, {1, 3, 2}, {3, 2, 4}, {1, 2, 3, 4, 4}, {1, 2, 3, 5, 4}, {5, 4, 3, 2, 1}, {1, 2, 3, 4, 5, 5}, {1, 2, 3, 4, 5, 6}, {0, 1, 2, 3, 4, 5}} {
		add(c, bad, commit)
	}
	for _, bad := range outsideMembers() {
		add(c, []int{bad}, commit)
		if bad < 1 {
			add(c, []int{bad, 1, 5}, commit)
		} else {
			add(c, []int{1, 5, bad}, commit)
		}
	}
	return list
}

// P55
func TestExactlyOneFieldElementFitsEachMember(t *testing.T) {
	for _, c := range crews() {
		for _, k := range validKeys(c) {
			for member := 1; member <= c.many; member++ {
				var fitting []int
				for _, share := range slices.Concat(upTo22(), outsideField()) {
					if impl.KeyFits(k, member, share) {
						fitting = append(fitting, share)
					}
				}
				if len(fitting) != 1 || impl.GroupOf(fitting[0]) != impl.CommitAt(k.Commit, member) {
					t.Errorf("of %v, member %d has the shares %v", k, member, fitting)
				}
			}
		}
	}
}

// P55, as values: the share is that of the polynomial that the key commits to.
func TestKeyFitsIsTrueForTheValueOfThePolynomial(t *testing.T) {
	for _, p := range fewPolynomials() {
		for many := len(p); many <= 5; many++ {
			k := impl.Key{Need: len(p), Many: many, Good: []int{2}, Commit: commitmentTo(p)}
			for member := 1; member <= many; member++ {
				right := valueAt(p, member)
				for _, share := range slices.Concat(upTo22(), wrongShares(right)) {
					if want := share == right; impl.KeyFits(k, member, share) != want {
						t.Errorf("KeyFits(%v, %d, %d) is not %v", k, member, share, want)
					}
				}
			}
		}
	}
}

// Section of KeyFits: false if an argument is invalid.
func TestKeyFitsOfInvalidArgumentsIsFalse(t *testing.T) {
	check := func(k impl.Key, member, share int) {
		t.Helper()
		if impl.KeyFits(k, member, share) {
			t.Errorf("KeyFits(%v, %d, %d)", k, member, share)
		}
	}
	for _, c := range crews() {
		for _, k := range validKeys(c) {
			for _, member := range outsideMembersOf(c) {
				for _, share := range upTo22() {
					check(k, member, share)
				}
			}
			for member := 1; member <= c.many; member++ {
				for _, share := range outsideField() {
					check(k, member, share)
				}
			}
		}
		for _, k := range invalidKeys(c) {
			for member := 0; member <= 6; member++ {
				for _, share := range upTo22() {
					check(k, member, share)
				}
			}
		}
	}
	for _, far := range []int{math.MinInt, math.MaxInt} {
		check(impl.Key{Need: far, Many: far, Good: []int{far}, Commit: []int{far}}, far, far)
	}
	check(impl.Key{}, 0, 0)
}

// P56
func TestAValidKeyIsNotValidOnceItIsChanged(t *testing.T) {
	for _, c := range crews() {
		for _, k := range validKeys(c) {
			if !impl.KeyOk(k) {
				t.Errorf("%v is not valid", k)
			}
			check := func(changed impl.Key) {
				t.Helper()
				if impl.KeyOk(changed) {
					t.Errorf("%v is valid", changed)
				}
			}
			for _, more := range []int{1, 2, 24} {
				check(impl.Key{Need: c.need, Many: c.many, Good: k.Good, Commit: append(slices.Clone(k.Commit), more)})
			}
			check(impl.Key{Need: 0, Many: c.many, Good: k.Good, Commit: k.Commit})
			check(impl.Key{Need: 0, Many: c.many, Good: k.Good})
			for i, from := range k.Good {
				check(impl.Key{Need: c.need, Many: c.many, Good: slices.Insert(slices.Clone(k.Good), i, from), Commit: k.Commit})
			}
			if len(k.Good) > 1 {
				check(impl.Key{Need: c.need, Many: c.many, Good: reversed(k.Good), Commit: k.Commit})
			}
		}
	}
}

// P56: every list of numbers near the range, of up to 3.
func TestTheDealersOfAKeyAreAscendingFrom1To5(t *testing.T) {
	for length := 0; length <= 3; length++ {
		for _, good := range tuples([]int{-1, 0, 1, 2, 3, 4, 5, 6}, length) {
			want := true
			for i, from := range good {
				want = want && from >= 1 && from <= 5 && (i == 0 || good[i-1] < from)
			}
			for _, c := range []crew{{1, 1}, {2, 2}, {3, 5}} {
				k := impl.Key{Need: c.need, Many: c.many, Good: good, Commit: commitmentTo(polynomialOf(c))}
				if impl.KeyOk(k) != want {
					t.Errorf("KeyOk(%v) is not %v", k, want)
				}
			}
		}
	}
}

// Section of KeyOk: false for whatever is wrong.
func TestKeyOkIsFalseForInvalidKeys(t *testing.T) {
	for _, c := range crews() {
		for _, k := range invalidKeys(c) {
			if impl.KeyOk(k) {
				t.Errorf("KeyOk(%v)", k)
			}
		}
		for _, other := range crews() {
			k := keyBy(c, upTo(c.many))
			k.Need, k.Many = other.need, other.many
			if want := other.need == c.need; impl.KeyOk(k) != want {
				t.Errorf("KeyOk(%v) is not %v", k, want)
			}
		}
	}
	if impl.KeyOk(impl.Key{}) || impl.KeyOk(impl.Key{Good: []int{1}}) {
		t.Error("the zero value is a key")
	}
}

// P57
func TestThePublicKeyIsTheCommitmentAt0(t *testing.T) {
	for _, c := range crews() {
		for _, k := range validKeys(c) {
			if pub := impl.KeyPub(k); pub != impl.CommitAt(k.Commit, 0) || pub != k.Commit[0] || pub == 0 {
				t.Errorf("KeyPub(%v) is %d", k, pub)
			}
		}
		for _, pub := range groupPowers() {
			k := impl.Key{Need: c.need, Many: c.many, Good: []int{1}, Commit: with(commitmentTo(polynomialOf(c)), 0, pub)}
			if impl.KeyPub(k) != pub {
				t.Errorf("KeyPub(%v) is %d", k, impl.KeyPub(k))
			}
		}
		for _, k := range invalidKeys(c) {
			if impl.KeyPub(k) != 0 {
				t.Errorf("KeyPub(%v) is %d", k, impl.KeyPub(k))
			}
		}
	}
	if impl.KeyPub(impl.Key{}) != 0 {
		t.Error("the zero value has a public key")
	}
}

// P58
func TestCorrectAnswersDoNotChangeTheKey(t *testing.T) {
	for _, c := range crews() {
		for _, s := range keyedScenes(c) {
			k := keyMade(t, c, s.deals, s.answers)
			more := rightAnswers(c, s.good(c)...)
			for _, answers := range [][]impl.Answer{
				slices.Concat(s.answers, more),
				slices.Concat(more, s.answers),
				slices.Concat(more, s.answers, more, more),
			} {
				if other := keyMade(t, c, s.deals, answers); !sameKey(k, other) {
					t.Errorf("the key %v of %v becomes %v by %v", k, s.deals, other, answers)
				}
			}
		}
	}
}

// P58: other answers that say nothing new do not change a key or a share.
func TestIdleAnswersDoNotChangeTheKey(t *testing.T) {
	for _, c := range crews() {
		idle := idleAnswers(c)
		for _, states := range tuples([]int{stateRight, stateAnswered, stateWrong}, c.many) {
			s := sceneOf(c, states)
			answers := slices.Concat(idle, s.answers, idle)
			if len(s.good(c)) < c.need {
				checkNoKey(t, c, s.deals, answers)
				continue
			}
			k := keyMade(t, c, s.deals, answers)
			if !sameKey(k, keyBy(c, s.good(c))) {
				t.Errorf("the key of %v is %v", s.deals, k)
			}
			for member := 1; member <= c.many; member++ {
				checkShare(t, k, s.deals, answers, member, valueAt(sumBy(c, s.good(c)), member))
			}
		}
	}
}

// P59
func TestTheKeyIsThatOfTheGoodDealsAlone(t *testing.T) {
	for _, c := range crews() {
		for _, s := range keyedScenes(c) {
			k := keyMade(t, c, s.deals, s.answers)
			alone := slices.DeleteFunc(slices.Clone(s.deals), func(d impl.Deal) bool {
				return !impl.KeyGood(d, s.answers, c.need, c.many)
			})
			if other := keyMade(t, c, alone, s.answers); !sameKey(k, other) || len(alone) != len(k.Good) {
				t.Errorf("the key of %v is %v, that of %v is %v", s.deals, k, alone, other)
			}
		}
	}
}

// P60
func TestTheSharesOfAKeyDetermineEachOther(t *testing.T) {
	for _, c := range crews() {
		for _, states := range tuples([]int{stateRight, stateAnswered, stateWrong}, c.many) {
			s := sceneOf(c, states)
			if len(s.good(c)) < c.need {
				continue
			}
			k := keyMade(t, c, s.deals, s.answers)
			shares := make([]int, c.many)
			for i := range shares {
				shares[i], _ = impl.KeyShare(k, s.deals, s.answers, i+1)
			}
			checkSharesAgree(t, impl.Deal{Shares: shares}, c)
			for _, members := range ascendingMembers(c) {
				if secret := weighted(shares, members, 0); impl.GroupOf(secret) != impl.KeyPub(k) {
					t.Errorf("the shares of %v in %v give the secret %d of %v", members, shares, secret, k)
				}
			}
		}
	}
}

// General rules: the same arguments give the same key, whatever was made in between and however the answers are kept.
func TestKeysKeepNoState(t *testing.T) {
	c := crew{3, 5}
	s := sceneOf(c, []int{stateAnswered, stateRight, stateWrong, stateAnswered, stateAnswered})
	first := keyMade(t, c, s.deals, s.answers)
	for range 100 {
		checkNoKey(t, c, s.deals, nil)
		if k := keyMade(t, c, s.deals, s.answers); !sameKey(k, first) {
			t.Errorf("the keys are %v and %v", first, k)
		}
		for member := 1; member <= 5; member++ {
			checkShare(t, first, s.deals, s.answers, member, valueAt(sumBy(c, s.good(c)), member))
			checkNoShare(t, impl.Key{Need: 3, Many: 5, Good: []int{3}, Commit: first.Commit}, s.deals, s.answers[:0], 2)
		}
	}
}

// givenDeals makes deals of lists that come in pairs, so that the lists of all deals can be watched.
func givenDeals(dealers []int, given [][]int) []impl.Deal {
	var deals []impl.Deal
	for i, from := range dealers {
		deals = append(deals, impl.Deal{From: from, Commit: given[2*i], Shares: given[2*i+1]})
	}
	return deals
}

// General rules: results are new memory, and the lists of the arguments stay as they are.
func TestKeysShareNoMemory(t *testing.T) {
	for _, c := range crews() {
		for _, states := range tuples([]int{stateNone, stateRight, stateAnswered, stateWrong}, c.many) {
			s := sceneOf(c, states)
			var dealers []int
			var lists [][]int
			for _, d := range s.deals {
				dealers = append(dealers, d.From)
				lists = append(lists, d.Commit, d.Shares)
			}
			checkMemory(t, "Good of KeyOf", func(given [][]int) []int {
				k, _ := impl.KeyOf(c.need, c.many, givenDeals(dealers, given), s.answers)
				return k.Good
			}, lists...)
			checkMemory(t, "Commit of KeyOf", func(given [][]int) []int {
				k, _ := impl.KeyOf(c.need, c.many, givenDeals(dealers, given), s.answers)
				return k.Commit
			}, lists...)
			k, _ := impl.KeyOf(c.need, c.many, s.deals, s.answers)
			checkApart(t, "KeyOf", k.Good, k.Commit)
		}
	}
}

// General rules: arguments stay as they are, the deals and answers behind the end included.
func TestKeysChangeNoArgument(t *testing.T) {
	for _, c := range crews() {
		for _, s := range []scene{
			sceneOf(c, []int{stateAnswered, stateWrong, stateRight, stateNone, stateAnswered}),
			sceneOf(c, []int{stateRight, stateAnswered, stateNone, stateAnswered, stateMisshaped}),
			{deals: unorderedDeals(c)[3], answers: idleAnswers(c)},
		} {
			deals := append(slices.Clone(s.deals), impl.Deal{From: 91})[:len(s.deals)]
			answers := append(slices.Clone(s.answers), impl.Answer{From: 91})[:len(s.answers)]
			k := keyBy(c, upTo(c.many))
			look := func() string {
				return fmt.Sprint(deals[:len(deals)+1], answers[:len(answers)+1], k)
			}
			before := look()
			for _, d := range deals {
				impl.KeyGood(d, answers, c.need, c.many)
			}
			impl.KeyOf(c.need, c.many, deals, answers)
			impl.KeyOk(k)
			impl.KeyPub(k)
			for member := 0; member <= 6; member++ {
				impl.KeyShare(k, deals, answers, member)
				impl.KeyFits(k, member, 7)
			}
			if look() != before {
				t.Errorf("the arguments were %s and are %s", before, look())
			}
		}
	}
	for _, c := range crews() {
		for _, k := range slices.Concat(validKeys(c), invalidKeys(c)) {
			checkMemory(t, "a key", func(given [][]int) []int {
				k := impl.Key{Need: k.Need, Many: k.Many, Good: given[0], Commit: given[1]}
				impl.KeyOk(k)
				impl.KeyPub(k)
				impl.KeyShare(k, rightDeals(c, 1, 2, 3, 4, 5), nil, 1)
				impl.KeyFits(k, 1, 1)
				return nil
			}, k.Good, k.Commit)
		}
	}
}
