package tests

import (
	"math"
	"slices"
	"sync"
	"testing"

	"loop.example/wardstaff/impl"
)

// noClaim is a court without a claim, made without the program, as are the other courts that the tests give.
func noClaim(c crew) impl.Court {
	return impl.Court{Many: c.many, Need: c.need}
}

// withClaim is a court with a claim that stands.
func withClaim(c crew, at int, supporters ...int) impl.Court {
	return impl.Court{Many: c.many, Need: c.need, On: true, Claim: impl.Claim{At: at, For: slices.Clone(supporters)}}
}

// withVeto is a court with a claim that has a veto.
func withVeto(c crew, at int, supporters ...int) impl.Court {
	court := withClaim(c, at, supporters...)
	court.Claim.Veto = true
	return court
}

// claimTimes lists both ends, what is a delay from them, and some others.
func claimTimes() []int {
	return []int{0, 1, 9, 10, 11, 44, 88, 89, 90, 98, 99}
}

// allTimes lists every time.
func allTimes() []int {
	return numbersFrom(0, 100)
}

func outsideTimes() []int {
	list := []int{-1, -2, -9, -10, -11, -99, -100, 100, 101, 109, 110, 199, 200, 256, 355, math.MinInt32, math.MaxInt32, 1 << 32, 1<<32 + 20, -1 << 32}
	for n := range 12 {
		list = append(list, math.MinInt+n, math.MaxInt-n)
	}
	return append(list, math.MinInt+89, math.MinInt+99, math.MinInt+109, math.MaxInt-99)
}

// supporterLists lists no supporters and all others of so many guardians, in every order.
func supporterLists(many int) [][]int {
	var list [][]int
	for length := range many + 1 {
		list = append(list, arrangements(upTo(many), length)...)
	}
	return list
}

// standing lists courts of every committee with a claim that stands, by supporters in every order.
func standing() []impl.Court {
	var list []impl.Court
	for _, c := range crews() {
		for _, supporters := range supporterLists(c.many) {
			for _, at := range claimTimes() {
				list = append(list, withClaim(c, at, supporters...))
			}
		}
	}
	return list
}

// fewStanding lists courts of every committee with a claim that stands, by every number of supporters, the first of whom is the first guardian or the last.
func fewStanding() []impl.Court {
	var list []impl.Court
	for _, c := range crews() {
		for supporters := range c.many + 1 {
			for _, at := range []int{0, 5, 89, 90, 99} {
				list = append(list, withClaim(c, at, upTo(supporters)...), withClaim(c, at, reversed(upTo(c.many))[:supporters]...))
			}
		}
	}
	return list
}

// vetoedOnes lists the courts with a veto of their claims.
func vetoedOnes(courts []impl.Court) []impl.Court {
	list := slices.Clone(courts)
	for i := range list {
		list[i].Claim.Veto = true
	}
	return list
}

// emptyCourts lists the courts of every committee without a claim, whose supporters are nil or empty.
func emptyCourts() []impl.Court {
	var list []impl.Court
	for _, c := range crews() {
		empty := noClaim(c)
		empty.Claim.For = []int{}
		list = append(list, noClaim(c), empty)
	}
	return list
}

// notStanding lists courts without a claim and those whose claim has a veto.
func notStanding() []impl.Court {
	return append(emptyCourts(), vetoedOnes(standing())...)
}

func fewNotStanding() []impl.Court {
	return append(emptyCourts(), vetoedOnes(fewStanding())...)
}

func sameClaim(a, b impl.Claim) bool {
	return a.At == b.At && slices.Equal(a.For, b.For) && a.Veto == b.Veto
}

func sameCourt(a, b impl.Court) bool {
	return a.Many == b.Many && a.Need == b.Need && a.On == b.On && sameClaim(a.Claim, b.Claim)
}

func crewOf(c impl.Court) crew {
	return crew{need: c.Need, many: c.Many}
}

func checkCourtOk(t *testing.T, c impl.Court, want bool) {
	t.Helper()
	if impl.CourtOk(c) != want {
		t.Errorf("CourtOk(%+v) is not %v", c, want)
	}
}

func checkGranted(t *testing.T, c impl.Court, now int, want bool) {
	t.Helper()
	if impl.CourtMay(c, now) != want {
		t.Errorf("CourtMay(%+v, %d) is not %v", c, now, want)
	}
}

// checkGrantedFrom fails the test if the claim is granted before the time, or not from then on.
func checkGrantedFrom(t *testing.T, c impl.Court, first int) {
	t.Helper()
	for _, now := range allTimes() {
		checkGranted(t, c, now, now >= first)
	}
}

func checkNeverGranted(t *testing.T, c impl.Court) {
	t.Helper()
	checkGrantedFrom(t, c, 100)
}

// opened fails the test if there is no new claim, or it has anything of the one before.
func opened(t *testing.T, c impl.Court, now int) impl.Court {
	t.Helper()
	next, ok := impl.CourtOpen(c, now)
	if want := withClaim(crewOf(c), now); !ok || !sameCourt(next, want) {
		t.Fatalf("CourtOpen(%+v, %d) is %+v, %v, not %+v", c, now, next, ok, want)
	}
	return next
}

// checkNotOpened fails the test if CourtOpen does not return the court itself and false.
func checkNotOpened(t *testing.T, c impl.Court, now int) {
	t.Helper()
	if next, ok := impl.CourtOpen(c, now); ok || !sameCourt(next, c) {
		t.Errorf("CourtOpen(%+v, %d) is %+v, %v", c, now, next, ok)
	}
}

// checkNothingOpened fails the test if CourtOpen does not return the zero value and false.
func checkNothingOpened(t *testing.T, c impl.Court, now int) {
	t.Helper()
	if next, ok := impl.CourtOpen(c, now); ok || !sameCourt(next, impl.Court{}) {
		t.Errorf("CourtOpen(%+v, %d) is %+v, %v", c, now, next, ok)
	}
}

// voted fails the test if the guardian is not the last supporter, or anything else is changed.
func voted(t *testing.T, c impl.Court, who int) impl.Court {
	t.Helper()
	next, ok := impl.CourtVote(c, who)
	want := withClaim(crewOf(c), c.Claim.At, slices.Concat(c.Claim.For, []int{who})...)
	if !ok || !sameCourt(next, want) {
		t.Fatalf("CourtVote(%+v, %d) is %+v, %v, not %+v", c, who, next, ok, want)
	}
	return next
}

// votedAll lets all of who vote, one after the other.
func votedAll(t *testing.T, c impl.Court, who []int) impl.Court {
	t.Helper()
	for _, guardian := range who {
		c = voted(t, c, guardian)
	}
	return c
}

// checkNotVoted fails the test if CourtVote does not return the court itself and false.
func checkNotVoted(t *testing.T, c impl.Court, who int) {
	t.Helper()
	if next, ok := impl.CourtVote(c, who); ok || !sameCourt(next, c) {
		t.Errorf("CourtVote(%+v, %d) is %+v, %v", c, who, next, ok)
	}
}

// checkNobodyVotes fails the test if one of the guardians can vote.
func checkNobodyVotes(t *testing.T, c impl.Court) {
	t.Helper()
	for who := 1; who <= c.Many; who++ {
		checkNotVoted(t, c, who)
	}
}

// checkNothingVoted fails the test if CourtVote does not return the zero value and false.
func checkNothingVoted(t *testing.T, c impl.Court, who int) {
	t.Helper()
	if next, ok := impl.CourtVote(c, who); ok || !sameCourt(next, impl.Court{}) {
		t.Errorf("CourtVote(%+v, %d) is %+v, %v", c, who, next, ok)
	}
}

// vetoed fails the test if the claim has no veto, or anything else is changed.
func vetoed(t *testing.T, c impl.Court) impl.Court {
	t.Helper()
	next, ok := impl.CourtVeto(c)
	if want := withVeto(crewOf(c), c.Claim.At, c.Claim.For...); !ok || !sameCourt(next, want) {
		t.Fatalf("CourtVeto(%+v) is %+v, %v, not %+v", c, next, ok, want)
	}
	return next
}

// checkNotVetoed fails the test if CourtVeto does not return the court itself and false.
func checkNotVetoed(t *testing.T, c impl.Court) {
	t.Helper()
	if next, ok := impl.CourtVeto(c); ok || !sameCourt(next, c) {
		t.Errorf("CourtVeto(%+v) is %+v, %v", c, next, ok)
	}
}

// checkNothingVetoed fails the test if CourtVeto does not return the zero value and false.
func checkNothingVetoed(t *testing.T, c impl.Court) {
	t.Helper()
	if next, ok := impl.CourtVeto(c); ok || !sameCourt(next, impl.Court{}) {
		t.Errorf("CourtVeto(%+v) is %+v, %v", c, next, ok)
	}
}

// checkInvalidCourt fails the test if a function takes the court to be valid, whatever else it is given.
func checkInvalidCourt(t *testing.T, c impl.Court) {
	t.Helper()
	checkCourtOk(t, c, false)
	for _, now := range []int{0, 5, 15, 99, -1, 100, math.MinInt, math.MaxInt} {
		checkNothingOpened(t, c, now)
	}
	for _, who := range []int{0, 1, 2, 3, 4, 5, 6, -1, math.MinInt, math.MaxInt} {
		checkNothingVoted(t, c, who)
	}
	checkNothingVetoed(t, c)
	for _, now := range []int{0, 9, 10, 15, 50, 98, 99, -1, 100, 109, math.MinInt, math.MaxInt} {
		checkGranted(t, c, now, false)
	}
}

// Section of CourtOk: every committee, without a claim, and with one of every time by every list of different guardians.
func TestCourtOkIsTrueInTheLimits(t *testing.T) {
	for _, c := range slices.Concat(standing(), notStanding()) {
		checkCourtOk(t, c, true)
	}
	for _, c := range crews() {
		for at := -20; at <= 120; at++ {
			for _, supporters := range [][]int{nil, {}, {1}, {c.many}, upTo(c.many), reversed(upTo(c.many))} {
				checkCourtOk(t, withClaim(c, at, supporters...), at >= 0 && at <= 99)
				checkCourtOk(t, withVeto(c, at, supporters...), at >= 0 && at <= 99)
			}
		}
	}
}

// Section of CourtOk: every list of up to four numbers near the guardians.
func TestCourtOkIsTrueForExactlyTheDifferentGuardians(t *testing.T) {
	for _, c := range crews() {
		for length := range 5 {
			for _, list := range tuples([]int{0, 1, 2, 3, 4, 5, 6}, length) {
				valid := true
				for i, who := range list {
					valid = valid && who >= 1 && who <= c.many && !slices.Contains(list[:i], who)
				}
				checkCourtOk(t, withClaim(c, 5, list...), valid)
			}
		}
	}
}

// Section of CourtOk: every committee near the range, without a claim and with one.
func TestCourtOkIsTrueForExactlyTheCommittees(t *testing.T) {
	for need := -2; need <= 8; need++ {
		for many := -2; many <= 8; many++ {
			c := crew{need: need, many: many}
			valid := need >= 1 && need <= many && many <= 5
			checkCourtOk(t, noClaim(c), valid)
			checkCourtOk(t, withClaim(c, 5), valid)
			checkCourtOk(t, withVeto(c, 99, 1), valid)
		}
	}
}

// P139 and the sections: committees that are not valid, with and without a claim that would do with another one.
func TestACourtOfNoCommitteeIsInvalid(t *testing.T) {
	for _, c := range append(outsideCrews(), crew{0, 2}, crew{0, 3}, crew{0, 4}, crew{4, 2}, crew{5, 2}, crew{2, 6}, crew{3, 7}) {
		checkInvalidCourt(t, noClaim(c))
		for _, supporters := range [][]int{nil, {1}, {2, 1}, upTo(5), upTo(6)} {
			checkInvalidCourt(t, withClaim(c, 5, supporters...))
			checkInvalidCourt(t, withVeto(c, 0, supporters...))
		}
	}
	checkInvalidCourt(t, impl.Court{})
	checkInvalidCourt(t, impl.Court{On: true})
	checkInvalidCourt(t, impl.Court{On: true, Claim: impl.Claim{Veto: true}})
	for _, far := range []int{math.MinInt, math.MaxInt} {
		checkInvalidCourt(t, withClaim(crew{far, far}, far, far))
	}
}

// P139: every supporter repeated, at each place and behind the others.
func TestACourtIsInvalidWithASupporterRepeated(t *testing.T) {
	for _, c := range fewStanding() {
		supporters := c.Claim.For
		for _, who := range supporters {
			for i := range len(supporters) + 1 {
				repeated := slices.Insert(slices.Clone(supporters), i, who)
				checkInvalidCourt(t, withClaim(crewOf(c), c.Claim.At, repeated...))
				checkInvalidCourt(t, withVeto(crewOf(c), c.Claim.At, repeated...))
			}
		}
		if len(supporters) > 0 {
			checkInvalidCourt(t, withClaim(crewOf(c), c.Claim.At, slices.Repeat(supporters, 2)...))
			checkInvalidCourt(t, withClaim(crewOf(c), c.Claim.At, slices.Repeat(supporters, 100)...))
		}
	}
}

// Section of CourtOk: a supporter who is no guardian, at each place and behind the others.
func TestACourtIsInvalidWithASupporterWhoIsNoGuardian(t *testing.T) {
	for _, c := range fewStanding() {
		if c.Claim.At != 5 {
			continue
		}
		for _, nobody := range outsideMembersOf(crewOf(c)) {
			for i := range c.Claim.For {
				checkInvalidCourt(t, withClaim(crewOf(c), 5, with(c.Claim.For, i, nobody)...))
				checkInvalidCourt(t, withVeto(crewOf(c), 5, with(c.Claim.For, i, nobody)...))
			}
			checkInvalidCourt(t, withClaim(crewOf(c), 5, append(slices.Clone(c.Claim.For), nobody)...))
			checkInvalidCourt(t, withVeto(crewOf(c), 5, append([]int{nobody}, c.Claim.For...)...))
		}
	}
}

// Section of CourtOk: times outside of claims by everybody and by nobody, also where so much later would be a time.
func TestACourtIsInvalidWithAClaimOfNoTime(t *testing.T) {
	for _, c := range crews() {
		for _, at := range outsideTimes() {
			checkInvalidCourt(t, withClaim(c, at))
			checkInvalidCourt(t, withClaim(c, at, upTo(c.many)...))
			checkInvalidCourt(t, withVeto(c, at))
			for _, now := range allTimes() {
				checkGranted(t, withClaim(c, at, upTo(c.many)...), now, false)
			}
		}
	}
}

// P139: each part of a claim, and all of them, where On is false.
func TestACourtIsInvalidWithPartsOfAClaimWithoutOne(t *testing.T) {
	for _, c := range crews() {
		for _, claim := range []impl.Claim{
			{At: 1}, {At: 5}, {At: 99}, {At: -1}, {At: 100}, {At: math.MinInt}, {At: math.MaxInt},
			{For: []int{1}}, {For: []int{c.many}}, {For: upTo(c.many)}, {For: reversed(upTo(c.many))}, {For: []int{0}}, {For: []int{c.many + 1}},
			{Veto: true}, {Veto: true, For: []int{}},
			{At: 5, For: []int{1}}, {At: 5, Veto: true}, {For: []int{1}, Veto: true}, {At: 5, For: upTo(c.many), Veto: true},
		} {
			checkInvalidCourt(t, impl.Court{Many: c.many, Need: c.need, Claim: claim})
		}
	}
	for _, court := range append(fewStanding(), vetoedOnes(fewStanding())...) {
		court.On = false
		if sameClaim(court.Claim, impl.Claim{}) {
			checkCourtOk(t, court, true)
			continue
		}
		checkInvalidCourt(t, court)
	}
}

// P133: courts without a claim and with a vetoed one, at every time and not only after the vetoed claim.
func TestCourtOpenMakesANewClaim(t *testing.T) {
	for _, c := range notStanding() {
		for _, now := range claimTimes() {
			next := opened(t, c, now)
			checkCourtOk(t, next, true)
		}
	}
	for _, c := range fewNotStanding() {
		for _, now := range allTimes() {
			opened(t, c, now)
		}
	}
}

// P133: a claim that stands, whoever supports it, also where the new one would be of the same time or the claim is granted.
func TestCourtOpenFailsWhileAClaimStands(t *testing.T) {
	for _, c := range standing() {
		for _, now := range claimTimes() {
			checkNotOpened(t, c, now)
		}
	}
	for _, c := range fewStanding() {
		for _, now := range allTimes() {
			checkNotOpened(t, c, now)
		}
	}
}

// Section of CourtOpen: a time outside gives the zero value, whether a claim stands or not.
func TestCourtOpenAtNoTimeFails(t *testing.T) {
	for _, c := range append(fewStanding(), fewNotStanding()...) {
		for _, now := range outsideTimes() {
			checkNothingOpened(t, c, now)
		}
	}
}

// P134: every guardian who does not support the claim yet, and none twice.
func TestCourtVoteMakesTheGuardianTheLastSupporter(t *testing.T) {
	for _, c := range standing() {
		for who := 1; who <= c.Many; who++ {
			if slices.Contains(c.Claim.For, who) {
				checkNotVoted(t, c, who)
				continue
			}
			next := voted(t, c, who)
			checkCourtOk(t, next, true)
			checkNotVoted(t, next, who)
		}
	}
}

// P134: all guardians in every order, none of whom can vote again at any point.
func TestEveryGuardianVotesOnce(t *testing.T) {
	for _, c := range crews() {
		for _, order := range arrangements(upTo(c.many), c.many) {
			court := withClaim(c, 7)
			for i, who := range order {
				court = voted(t, court, who)
				for _, before := range order[:i+1] {
					checkNotVoted(t, court, before)
				}
			}
			checkNobodyVotes(t, court)
			if !slices.Equal(court.Claim.For, order) {
				t.Errorf("the supporters are %v, not %v", court.Claim.For, order)
			}
		}
	}
}

// P134: no claim, and one with a veto.
func TestCourtVoteFailsUnlessAClaimStands(t *testing.T) {
	for _, c := range notStanding() {
		checkNobodyVotes(t, c)
	}
}

// Section of CourtVote: who is no guardian gives the zero value, whether a claim stands or not.
func TestCourtVoteOfNobodyFails(t *testing.T) {
	for _, c := range append(fewStanding(), fewNotStanding()...) {
		for _, nobody := range append(outsideMembersOf(crewOf(c)), 256+1, 1<<32+1, -1<<32+1) {
			checkNothingVoted(t, c, nobody)
		}
	}
}

// P135: every claim that stands, granted ones included.
func TestAfterCourtVetoNothingComesOfTheClaim(t *testing.T) {
	for _, c := range standing() {
		next := vetoed(t, c)
		checkCourtOk(t, next, true)
		checkNobodyVotes(t, next)
		checkNotVetoed(t, next)
		checkNeverGranted(t, next)
		opened(t, next, 0)
		opened(t, next, 99)
		opened(t, next, c.Claim.At)
	}
}

// Section of CourtVeto: no claim, and one with a veto.
func TestCourtVetoFailsUnlessAClaimStands(t *testing.T) {
	for _, c := range notStanding() {
		checkNotVetoed(t, c)
	}
}

// P135 and P137: what could be granted, and then could not.
func TestAVetoOfWhatCouldBeGranted(t *testing.T) {
	for _, c := range crews() {
		for _, supporters := range [][]int{upTo(c.need), upTo(c.many), reversed(upTo(c.many))} {
			for at := 0; at <= 89; at++ {
				court := withClaim(c, at, supporters...)
				checkGranted(t, court, at+10, true)
				checkNeverGranted(t, vetoed(t, court))
			}
		}
	}
}

// P136: every claim that stands, at every time.
func TestCourtMayNeedsEnoughSupportersAndTheDelay(t *testing.T) {
	for _, c := range standing() {
		if len(c.Claim.For) >= c.Need {
			checkGrantedFrom(t, c, c.Claim.At+10)
		} else {
			checkNeverGranted(t, c)
		}
	}
}

// P136: claims of every time, with exactly as many supporters as are needed, and one fewer.
func TestCourtMayAtEveryTime(t *testing.T) {
	for _, c := range crews() {
		for _, at := range allTimes() {
			for _, guardians := range [][]int{upTo(c.many), reversed(upTo(c.many))} {
				checkGrantedFrom(t, withClaim(c, at, guardians[:c.need]...), at+10)
				checkNeverGranted(t, withClaim(c, at, guardians[:c.need-1]...))
				checkGrantedFrom(t, withClaim(c, at, guardians...), at+10)
			}
		}
	}
}

// P136: without a claim that stands.
func TestCourtMayIsFalseUnlessAClaimStands(t *testing.T) {
	for _, c := range notStanding() {
		checkNeverGranted(t, c)
	}
}

// Section of CourtMay: times outside, from which the time of the claim may be as far as the delay, also around the ends of int.
func TestCourtMayIsFalseAtNoTime(t *testing.T) {
	for _, c := range append(fewStanding(), fewNotStanding()...) {
		for _, now := range outsideTimes() {
			checkGranted(t, c, now, false)
		}
		for later := range 300 {
			checkGranted(t, c, 100+later, false)
			checkGranted(t, c, -1-later, false)
		}
	}
}

// P137: every later time, every further supporter, and a veto.
func TestCourtMayHoldsLaterAndWithOneMoreSupporter(t *testing.T) {
	for _, c := range fewStanding() {
		for _, now := range allTimes() {
			if !impl.CourtMay(c, now) {
				continue
			}
			for later := now; later <= 99; later++ {
				checkGranted(t, c, later, true)
			}
			for who := 1; who <= c.Many; who++ {
				next, _ := impl.CourtVote(c, who)
				checkGranted(t, next, now, true)
			}
			checkGranted(t, vetoed(t, c), now, false)
		}
	}
}

// P138: every time of a claim, those to which the delay leaves no time included.
func TestAClaimOfAllGuardiansIsNotGrantedAtOnce(t *testing.T) {
	for _, c := range crews() {
		for _, before := range []impl.Court{noClaim(c), withVeto(c, 0, 1), withVeto(c, 99, upTo(c.many)...)} {
			for _, now := range allTimes() {
				court := opened(t, before, now)
				checkNeverGranted(t, court)
				court = votedAll(t, court, upTo(c.many))
				checkGrantedFrom(t, court, now+10)
			}
		}
	}
}

// P138: the guardians in every order; the last one who is needed makes the difference.
func TestAClaimIsGrantedFromTheSupporterWhoIsNeeded(t *testing.T) {
	for _, c := range crews() {
		for _, order := range arrangements(upTo(c.many), c.many) {
			court := opened(t, noClaim(c), 30)
			for i, who := range order {
				court = voted(t, court, who)
				checkGranted(t, court, 39, false)
				checkGranted(t, court, 40, i+1 >= c.need)
				checkGranted(t, court, 99, i+1 >= c.need)
			}
		}
	}
}

// P140: a claim anew at every time, after one that could have been granted at it.
func TestAfterAVetoAndANewClaimTheDelayStartsAnew(t *testing.T) {
	for _, c := range crews() {
		for _, at := range claimTimes() {
			for _, now := range allTimes() {
				court := opened(t, vetoed(t, withClaim(c, at, reversed(upTo(c.many))...)), now)
				if len(court.Claim.For) > 0 || court.Claim.Veto {
					t.Errorf("the new claim is %+v", court.Claim)
				}
				checkNeverGranted(t, court)
				checkNotOpened(t, court, now)
				checkGrantedFrom(t, votedAll(t, court, upTo(c.many)), now+10)
			}
		}
	}
}

// P140: as often as one likes.
func TestClaimsAreMadeAnewAgainAndAgain(t *testing.T) {
	for _, c := range crews() {
		court := noClaim(c)
		for round := range 50 {
			court = opened(t, court, 89-round)
			court = votedAll(t, court, upTo(1+round%c.many))
			checkGranted(t, court, 99-round, 1+round%c.many >= c.need)
			checkGranted(t, court, 98-round, false)
			court = vetoed(t, court)
		}
	}
}

// P141: every two guardians, also where one of them supports the claim already or both are the same, after every claim.
func TestTheOrderOfTwoGuardiansDoesNotMatter(t *testing.T) {
	both := func(c impl.Court, first, second int) impl.Court {
		c, _ = impl.CourtVote(c, first)
		c, _ = impl.CourtVote(c, second)
		return c
	}
	for _, c := range append(fewStanding(), fewNotStanding()...) {
		for first := 1; first <= c.Many; first++ {
			for second := 1; second <= c.Many; second++ {
				one, other := both(c, first, second), both(c, second, first)
				for _, now := range allTimes() {
					if impl.CourtMay(one, now) != impl.CourtMay(other, now) {
						t.Errorf("CourtMay(%+v, %d) is not CourtMay(%+v, %d)", one, now, other, now)
					}
				}
			}
		}
	}
}

// P133 to P141, as values.
func TestCourtsAtNamedValues(t *testing.T) {
	c := impl.Court{Many: 3, Need: 2}
	checkNotVoted(t, c, 1)
	checkNotVetoed(t, c)
	checkGranted(t, c, 99, false)
	first := opened(t, c, 0)
	if want := (impl.Court{Many: 3, Need: 2, On: true}); !sameCourt(first, want) {
		t.Errorf("the court is %+v, not %+v", first, want)
	}
	checkNothingVoted(t, first, 4)
	checkNothingVoted(t, first, 0)
	one := voted(t, first, 3)
	checkNotVoted(t, one, 3)
	checkGranted(t, one, 99, false)
	two := voted(t, one, 1)
	if want := (impl.Court{Many: 3, Need: 2, On: true, Claim: impl.Claim{For: []int{3, 1}}}); !sameCourt(two, want) {
		t.Errorf("the court is %+v, not %+v", two, want)
	}
	checkGranted(t, two, 9, false)
	checkGranted(t, two, 10, true)
	checkNotOpened(t, two, 10)
	against := vetoed(t, two)
	if want := (impl.Court{Many: 3, Need: 2, On: true, Claim: impl.Claim{For: []int{3, 1}, Veto: true}}); !sameCourt(against, want) {
		t.Errorf("the court is %+v, not %+v", against, want)
	}
	checkNotVoted(t, against, 2)
	checkNothingVoted(t, against, 4)
	checkGranted(t, against, 10, false)
	late := votedAll(t, opened(t, against, 90), []int{2, 1, 3})
	checkNeverGranted(t, late)
	last := votedAll(t, opened(t, vetoed(t, late), 89), []int{2, 3})
	checkGranted(t, last, 98, false)
	checkGranted(t, last, 99, true)
	checkGranted(t, last, 100, false)
	checkGranted(t, last, 88, false)
	checkGranted(t, last, 0, false)
}

// memoryCourts lists courts of every kind, some of which are invalid.
func memoryCourts() []impl.Court {
	list := append(fewStanding(), fewNotStanding()...)
	for _, c := range crews() {
		list = append(list, withClaim(c, 100, 1), withClaim(c, 5, 1, 1), withClaim(c, 5, 0), withClaim(c, -1, upTo(c.many)...), impl.Court{Many: c.many, Need: c.need, Claim: impl.Claim{For: []int{1}}})
	}
	return append(list, impl.Court{}, withClaim(crew{2, 6}, 5, 1, 2), withVeto(crew{0, 3}, 5, 3))
}

// givenTo returns the court with other memory for its supporters.
func givenTo(c impl.Court, supporters []int) impl.Court {
	c.Claim.For = supporters
	return c
}

// General rules: no argument is changed, and what is returned is new memory, also where it is the court as it was.
func TestCourtsShareNoMemory(t *testing.T) {
	for _, c := range memoryCourts() {
		for _, now := range []int{0, 5, 99, 100} {
			checkMemory(t, "CourtOpen", func(lists [][]int) []int {
				next, _ := impl.CourtOpen(givenTo(c, lists[0]), now)
				return next.Claim.For
			}, c.Claim.For)
		}
		for who := range 7 {
			checkMemory(t, "CourtVote", func(lists [][]int) []int {
				next, _ := impl.CourtVote(givenTo(c, lists[0]), who)
				return next.Claim.For
			}, c.Claim.For)
		}
		checkMemory(t, "CourtVeto", func(lists [][]int) []int {
			next, _ := impl.CourtVeto(givenTo(c, lists[0]))
			return next.Claim.For
		}, c.Claim.For)
		checkMemory(t, "CourtMay", func(lists [][]int) []int {
			impl.CourtOk(givenTo(c, lists[0]))
			impl.CourtMay(givenTo(c, lists[0]), 50)
			return nil
		}, c.Claim.For)
	}
}

// General rules: two supporters by the same court do not overwrite each other, and the courts before stay as they are.
func TestCourtsBeforeAVoteStayAsTheyAre(t *testing.T) {
	for _, c := range crews() {
		courts := []impl.Court{opened(t, noClaim(c), 20)}
		for who := 1; who <= c.many; who++ {
			before := courts[who-1]
			courts = append(courts, voted(t, before, who))
			for other := who + 1; other <= c.many; other++ {
				voted(t, before, other)
			}
			vetoed(t, before)
			checkNotOpened(t, before, 99)
		}
		for i, court := range courts {
			if want := withClaim(c, 20, upTo(i)...); !sameCourt(court, want) {
				t.Errorf("the court is %+v, not %+v", court, want)
			}
		}
	}
}

// General rules: nothing is kept from one call to the next, also when calls run at the same time.
func TestCourtsKeepNoState(t *testing.T) {
	c := crew{2, 3}
	var callers sync.WaitGroup
	for range 8 {
		callers.Go(func() {
			for range 50 {
				checkGranted(t, withClaim(c, 5, 3, 1), 15, true)
				checkGranted(t, withVeto(c, 5, 3, 1), 15, false)
				checkGranted(t, withClaim(c, 5, 3), 15, false)
				checkNotVoted(t, noClaim(c), 1)
				checkNotVoted(t, withClaim(c, 5, 3), 3)
				checkNothingVoted(t, withClaim(c, 5, 3), 4)
				checkNothingVetoed(t, withClaim(c, 5, 3, 3))
				checkNotVetoed(t, noClaim(c))
				checkNothingOpened(t, noClaim(c), 100)
				checkNotOpened(t, withClaim(c, 5), 6)
				checkCourtOk(t, withClaim(c, 5, 1, 1), false)
				checkCourtOk(t, withClaim(c, 5, 1, 2), true)
			}
		})
	}
	callers.Wait()
}

// General rules: the limits are as in the table of constants.
func TestTheLimitsOfCourts(t *testing.T) {
	if impl.TimeMax != 99 || impl.CourtLag != 10 {
		t.Errorf("TimeMax is %d, and CourtLag is %d", impl.TimeMax, impl.CourtLag)
	}
}
