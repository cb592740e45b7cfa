package tests

import (
	"fmt"
	"math"
	"slices"
	"testing"

	"loop.example/wardstaff/impl"
)

// meeting is what a session is made of: a key with all shares, a message, and the signers with their nonces.
type meeting struct {
	heldKey
	msg     int
	members []int
	drawn   []int
}

// meetingOf takes the nonces of the signers from those of all members.
func meetingOf(k heldKey, msg int, members []int, drawn []int) meeting {
	m := meeting{heldKey: k, msg: msg, members: members}
	for _, member := range members {
		m.drawn = append(m.drawn, drawn[member-1])
	}
	return m
}

func (m meeting) shown() []int {
	var list []int
	for _, nonce := range m.drawn {
		list = append(list, power(nonce))
	}
	return list
}

// r is the product of all nonce commitments, made without the program.
func (m meeting) r() int {
	nonces := 0
	for _, nonce := range m.drawn {
		nonces += nonce
	}
	return power(nonces)
}

// parts are the right partial signatures, made without the program.
func (m meeting) parts() []int {
	var list []int
	for i, member := range m.members {
		weight := weightAmong(m.heldKey, m.members, member, m.r(), m.msg)
		list = append(list, (m.drawn[i]+weight*m.held[member-1].Share)%23)
	}
	return list
}

// sig is the signature by the whole secret, made without the program.
func (m meeting) sig() impl.Sig {
	nonces := 0
	for _, nonce := range m.drawn {
		nonces += nonce
	}
	return aloneBy(m.secret, m.msg, nonces%23)
}

// session is the session to which no part has arrived, made without the program.
func (m meeting) session() impl.Session {
	s := impl.Session{Key: m.key, Msg: m.msg}
	for i, shown := range m.shown() {
		s.All = append(s.All, impl.Shown{Member: m.members[i], R: shown})
	}
	return s
}

// signed is the session to which all right parts have arrived, made without the program.
func (m meeting) signed() impl.Session {
	s := m.session()
	for i, part := range m.parts() {
		s = withPart(s, i, part)
	}
	return s
}

// withPart returns the session with the part at the index, made without the program.
func withPart(s impl.Session, index, z int) impl.Session {
	s.All = slices.Clone(s.All)
	s.All[index].On, s.All[index].Z = true, z
	return s
}

// withShown returns the session with something else at the index.
func withShown(s impl.Session, index int, shown impl.Shown) impl.Session {
	s.All = slices.Clone(s.All)
	s.All[index] = shown
	return s
}

// meetings lists a meeting of every list of signers of keys of every committee, with several nonces and messages, of which some have the challenge 0.
func meetings() []meeting {
	var list []meeting
	for _, c := range crews() {
		for i, k := range refreshables(c) {
			for j, members := range signerLists(c) {
				m := meetingOf(k.heldKey, 0, members, nonceLists()[(i+j)%4])
				m.msg = []int{messages()[(i+j)%8], messageWith(m.r(), power(k.secret), (i*j)%23)}[j%2]
				list = append(list, m)
			}
		}
	}
	return list
}

// fewMeetings lists the meetings of just as many signers as are needed and of all members, by one key of each committee.
func fewMeetings() []meeting {
	var list []meeting
	for i, c := range crews() {
		k := heldKeyOf(c, upTo(c.many), polynomialOf(c))
		list = append(list, meetingOf(k, messages()[i%8], upTo(c.need), []int{3, 5, 0, 22, 11}))
		list = append(list, meetingOf(k, 99, upTo(c.many), []int{9, 9, 14, 1, 0}))
	}
	return list
}

func sameSession(a, b impl.Session) bool {
	return sameKey(a.Key, b.Key) && a.Msg == b.Msg && slices.Equal(a.All, b.All)
}

// begun fails the test if there is no such session.
func begun(t *testing.T, k impl.Key, msg int, members, shown []int) impl.Session {
	t.Helper()
	s, ok := impl.SessionNew(k, msg, members, shown)
	if !ok {
		t.Fatalf("SessionNew(%v, %d, %v, %v) failed", k, msg, members, shown)
	}
	return s
}

func checkNotBegun(t *testing.T, k impl.Key, msg int, members, shown []int) {
	t.Helper()
	if s, ok := impl.SessionNew(k, msg, members, shown); ok || !sameSession(s, impl.Session{}) {
		t.Errorf("SessionNew(%v, %d, %v, %v) is %v, %v", k, msg, members, shown, s, ok)
	}
}

// put fails the test if the part is not stored, or anything else is changed.
func put(t *testing.T, s impl.Session, member, z int) impl.Session {
	t.Helper()
	next, ok := impl.SessionPut(s, member, z)
	index := slices.IndexFunc(s.All, func(shown impl.Shown) bool { return shown.Member == member })
	if want := withPart(s, index, z); !ok || !sameSession(next, want) {
		t.Fatalf("SessionPut(%v, %d, %d) is %v, %v, not %v", s, member, z, next, ok, want)
	}
	return next
}

// checkNotPut fails the test if SessionPut does not return the session itself and false.
func checkNotPut(t *testing.T, s impl.Session, member, z int) {
	t.Helper()
	if next, ok := impl.SessionPut(s, member, z); ok || !sameSession(next, s) {
		t.Errorf("SessionPut(%v, %d, %d) is %v, %v", s, member, z, next, ok)
	}
}

// checkNothingPut fails the test if SessionPut does not return the zero value and false.
func checkNothingPut(t *testing.T, s impl.Session, member, z int) {
	t.Helper()
	if next, ok := impl.SessionPut(s, member, z); ok || !sameSession(next, impl.Session{}) {
		t.Errorf("SessionPut(%v, %d, %d) is %v, %v", s, member, z, next, ok)
	}
}

func checkSessionOk(t *testing.T, s impl.Session, want bool) {
	t.Helper()
	if impl.SessionOk(s) != want {
		t.Errorf("SessionOk(%v) is not %v", s, want)
	}
}

func checkSessionR(t *testing.T, s impl.Session, want int) {
	t.Helper()
	if r := impl.SessionR(s); r != want {
		t.Errorf("SessionR(%v) is %d, not %d", s, r, want)
	}
}

func checkSessionBad(t *testing.T, s impl.Session, want ...int) {
	t.Helper()
	if bad := impl.SessionBad(s); !slices.Equal(bad, want) {
		t.Errorf("SessionBad(%v) is %v, not %v", s, bad, want)
	}
}

func checkSessionSig(t *testing.T, s impl.Session, want impl.Sig) {
	t.Helper()
	sig, ok := impl.SessionSig(s)
	if !ok || sig != want {
		t.Errorf("SessionSig(%v) is %v, %v, not %v", s, sig, ok, want)
	}
	checkSigOk(t, impl.KeyPub(s.Key), s.Msg, sig, true)
}

func checkNoSessionSig(t *testing.T, s impl.Session) {
	t.Helper()
	if sig, ok := impl.SessionSig(s); ok || sig != (impl.Sig{}) {
		t.Errorf("SessionSig(%v) is %v, %v", s, sig, ok)
	}
}

// checkInvalid fails the test if a function takes the session to be valid.
func checkInvalid(t *testing.T, s impl.Session) {
	t.Helper()
	checkSessionOk(t, s, false)
	checkSessionR(t, s, 0)
	checkSessionBad(t, s)
	checkNoSessionSig(t, s)
	for _, member := range []int{0, 1, 5, 6} {
		checkNothingPut(t, s, member, 7)
		checkNothingPut(t, s, member, 23)
	}
}

// checkOrder fails the test if the parts do not add up to the signature when they arrive by the signers in the order.
func (m meeting) checkOrder(t *testing.T, order []int) {
	t.Helper()
	s := m.session()
	for _, member := range order {
		checkNoSessionSig(t, s)
		s = put(t, s, member, m.parts()[slices.Index(m.members, member)])
		checkSessionBad(t, s)
	}
	checkSessionSig(t, s, m.sig())
}

// P104: every committee and list of signers, and messages at both ends.
func TestSessionNewHasTheSigners(t *testing.T) {
	for _, m := range meetings() {
		for _, msg := range []int{m.msg, 0, 99} {
			m.msg = msg
			s := begun(t, m.key, msg, m.members, m.shown())
			if !sameSession(s, m.session()) {
				t.Errorf("the session of %v is %v", m, s)
			}
			checkSessionOk(t, s, true)
			checkSessionBad(t, s)
			checkNoSessionSig(t, s)
		}
	}
}

// P104: any dealers and commitment of the key, every message, and every nonce commitment.
func TestSessionNewByEveryValidKey(t *testing.T) {
	for i, c := range crews() {
		for j, k := range validKeys(c) {
			for _, members := range [][]int{upTo(c.need), upTo(c.many)} {
				msg, shown := (10*i+j)%100, make([]int, len(members))
				for n := range shown {
					shown[n] = power(i + 7*j + 5*n)
				}
				s := begun(t, k, msg, members, shown)
				if !sameKey(s.Key, k) || s.Msg != msg || len(s.All) != len(members) {
					t.Errorf("SessionNew(%v, %d, %v, %v) is %v", k, msg, members, shown, s)
				}
				for n, member := range members {
					if s.All[n] != (impl.Shown{Member: member, R: shown[n]}) {
						t.Errorf("SessionNew(%v, %d, %v, %v) is %v", k, msg, members, shown, s)
					}
				}
			}
		}
	}
}

// P104 and P111: every list of up to four signers near the range.
func TestSessionNewSucceedsForExactlyTheValidSigners(t *testing.T) {
	for _, c := range crews() {
		k := heldKeyOf(c, nil, polynomialOf(c)).key
		for length := 0; length <= 4; length++ {
			for _, members := range tuples([]int{0, 1, 2, 3, 4, 5, 6}, length) {
				valid := length >= c.need && slices.IsSorted(members) && len(slices.Compact(slices.Clone(members))) == length
				valid = valid && (length == 0 || members[0] >= 1 && members[length-1] <= c.many)
				shown := []int{8, 1, 24, 8}[:length]
				s, ok := impl.SessionNew(k, 9, members, shown)
				if ok != valid || ok != (len(s.All) > 0) {
					t.Errorf("SessionNew(%v, 9, %v, %v) is %v, %v", k, members, shown, s, ok)
				}
			}
		}
	}
}

// P104: every set of members.
func TestSessionNewSucceedsForExactlyTheSetsOfEnoughMembers(t *testing.T) {
	for _, c := range crews() {
		k := heldKeyOf(c, []int{5}, polynomialOf(c)).key
		for _, members := range memberSets() {
			shown := []int{1, 2, 3, 4, 6}[:len(members)]
			if len(members) >= c.need && members[len(members)-1] <= c.many {
				begun(t, k, 50, members, shown)
			} else {
				checkNotBegun(t, k, 50, members, shown)
			}
		}
	}
}

// P104: signers that are none, at each position, twice or far from any.
func TestSessionNewFailsForSignersThatAreNone(t *testing.T) {
	for _, m := range fewMeetings() {
		shown := m.shown()
		for i, member := range m.members {
			checkNotBegun(t, m.key, 9, slices.Insert(slices.Clone(m.members), i, member), slices.Insert(slices.Clone(shown), i, shown[i]))
			for _, bad := range append(outsideMembers(), m.key.Many+1) {
				checkNotBegun(t, m.key, 9, with(m.members, i, bad), shown)
			}
		}
		if len(m.members) > 1 {
			checkNotBegun(t, m.key, 9, reversed(m.members), shown)
		}
		checkNotBegun(t, m.key, 9, m.members[:m.key.Need-1], shown[:m.key.Need-1])
		checkNotBegun(t, m.key, 9, upTo(m.key.Many+1), []int{1, 1, 1, 1, 1, 1}[:m.key.Many+1])
		checkNotBegun(t, m.key, 9, upTo(100), slices.Repeat([]int{1}, 100))
		checkNotBegun(t, m.key, 9, nil, nil)
		checkNotBegun(t, m.key, 9, []int{}, []int{})
	}
}

// P104: members and nonce commitments that are not as many, although each list would do with another one.
func TestSessionNewFailsForDifferentLengths(t *testing.T) {
	for _, m := range meetings() {
		shown := m.shown()
		for _, other := range [][]int{nil, {}, shown[1:], shown[:len(shown)-1], append(slices.Clone(shown), 1), append(slices.Clone(shown), 0), slices.Repeat(shown, 20)} {
			checkNotBegun(t, m.key, m.msg, m.members, other)
		}
		checkNotBegun(t, m.key, m.msg, nil, shown)
		checkNotBegun(t, m.key, m.msg, m.members[1:], shown)
		checkNotBegun(t, m.key, m.msg, m.members[:len(m.members)-1], shown)
		checkNotBegun(t, m.key, m.msg, append(slices.Clone(m.members), m.key.Many+1), shown)
	}
}

// Section of SessionNew: false where a nonce commitment is not of the group, at each position, or the message or the key is none.
func TestSessionNewOfInvalidArgumentsFails(t *testing.T) {
	for _, m := range fewMeetings() {
		shown := m.shown()
		for i := range shown {
			for _, bad := range outsideGroup() {
				checkNotBegun(t, m.key, 9, m.members, with(shown, i, bad))
			}
		}
		for _, bad := range outsideMessages() {
			checkNotBegun(t, m.key, bad, m.members, shown)
		}
	}
	for _, c := range crews() {
		for _, k := range invalidKeys(c) {
			for _, members := range [][]int{nil, {1}, upTo(c.need), upTo(c.many), upTo(5), upTo(6)} {
				checkNotBegun(t, k, 9, members, []int{1, 2, 3, 4, 6, 7}[:len(members)])
			}
		}
	}
	for _, far := range []int{math.MinInt, math.MaxInt} {
		k := impl.Key{Need: far, Many: far, Good: []int{far}, Commit: []int{far}}
		checkNotBegun(t, k, far, []int{far}, []int{far})
		checkNotBegun(t, k, 9, nil, nil)
	}
	checkNotBegun(t, impl.Key{}, 0, nil, nil)
	checkNotBegun(t, impl.Key{}, 0, []int{0}, []int{0})
	checkNotBegun(t, impl.Key{}, 0, []int{1}, []int{1})
}

// Section of SessionOk: any parts, right or wrong, 0 included.
func TestSessionOkAllowsAnyParts(t *testing.T) {
	for _, m := range fewMeetings() {
		for i := range m.members {
			for z := range 23 {
				checkSessionOk(t, withPart(m.session(), i, z), true)
				checkSessionOk(t, withPart(m.signed(), i, z), true)
			}
		}
	}
}

// P111: a signer repeated, also the same with other things, at each position.
func TestASessionIsInvalidWithASignerRepeated(t *testing.T) {
	for _, m := range meetings() {
		for _, s := range []impl.Session{m.session(), m.signed()} {
			checkSessionOk(t, s, true)
			for i, shown := range s.All {
				bad := s
				bad.All = slices.Insert(slices.Clone(s.All), i, shown)
				checkInvalid(t, bad)
				bad.All = append(slices.Clone(s.All), shown)
				checkInvalid(t, bad)
				bad.All = append(slices.Clone(s.All), impl.Shown{Member: shown.Member, R: 1, On: true})
				checkInvalid(t, bad)
			}
		}
	}
}

// P111: messages outside.
func TestASessionIsInvalidWithAnInvalidMessage(t *testing.T) {
	for _, m := range fewMeetings() {
		for _, s := range []impl.Session{m.session(), m.signed()} {
			for msg := range 100 {
				s.Msg = msg
				checkSessionOk(t, s, true)
			}
			for _, bad := range outsideMessages() {
				s.Msg = bad
				checkInvalid(t, s)
			}
		}
	}
}

// P111: every number of signers that is too few, whichever of them are left.
func TestASessionIsInvalidWithTooFewSigners(t *testing.T) {
	for _, m := range meetings() {
		s := m.signed()
		for _, members := range memberSets() {
			fewer := s
			fewer.All = slices.DeleteFunc(slices.Clone(s.All), func(shown impl.Shown) bool { return !slices.Contains(members, shown.Member) })
			if len(fewer.All) < m.key.Need {
				checkInvalid(t, fewer)
			} else {
				checkSessionOk(t, fewer, true)
			}
		}
	}
}

// Section of SessionOk: signers that are not of the committee or not ascending, at each position.
func TestASessionIsInvalidWithOtherSigners(t *testing.T) {
	for _, m := range fewMeetings() {
		for _, s := range []impl.Session{m.session(), m.signed()} {
			for i, shown := range s.All {
				for _, bad := range append(outsideMembers(), m.key.Many+1) {
					shown.Member = bad
					checkInvalid(t, withShown(s, i, shown))
				}
				if i > 0 {
					swapped := withShown(withShown(s, i, s.All[i-1]), i-1, s.All[i])
					checkInvalid(t, swapped)
				}
			}
		}
	}
}

// Section of SessionOk: what has been shown, at each position.
func TestASessionIsInvalidWithSomethingElseShown(t *testing.T) {
	for _, m := range fewMeetings() {
		for _, s := range []impl.Session{m.session(), m.signed()} {
			for i, shown := range s.All {
				for _, bad := range outsideGroup() {
					checkInvalid(t, withShown(s, i, impl.Shown{Member: shown.Member, R: bad, On: shown.On, Z: shown.Z}))
				}
				for _, bad := range append(outsideField(), m.parts()[i]+23, m.parts()[i]-23) {
					checkInvalid(t, withShown(s, i, impl.Shown{Member: shown.Member, R: shown.R, On: true, Z: bad}))
					checkInvalid(t, withShown(s, i, impl.Shown{Member: shown.Member, R: shown.R, Z: bad}))
				}
				for z := range 23 {
					checkSessionOk(t, withShown(s, i, impl.Shown{Member: shown.Member, R: shown.R, Z: z}), z == 0)
					if z > 0 {
						checkInvalid(t, withShown(s, i, impl.Shown{Member: shown.Member, R: shown.R, Z: z}))
					}
				}
			}
		}
	}
}

// Section of SessionOk: keys that are not valid, with signers that would do.
func TestASessionIsInvalidWithAnInvalidKey(t *testing.T) {
	for _, c := range crews() {
		for _, k := range invalidKeys(c) {
			for _, members := range [][]int{nil, {1}, upTo(c.need), upTo(c.many), upTo(5), upTo(6)} {
				s := impl.Session{Key: k, Msg: 9}
				for i, member := range members {
					s.All = append(s.All, impl.Shown{Member: member, R: power(i), On: i == 0})
				}
				checkInvalid(t, s)
			}
		}
	}
	checkInvalid(t, impl.Session{})
	checkInvalid(t, impl.Session{All: []impl.Shown{{}}})
	checkInvalid(t, impl.Session{All: []impl.Shown{{Member: 1, R: 1}}})
	for _, far := range []int{math.MinInt, math.MaxInt} {
		k := impl.Key{Need: far, Many: far, Good: []int{far}, Commit: []int{far}}
		checkInvalid(t, impl.Session{Key: k, Msg: far, All: []impl.Shown{{Member: far, R: far, On: true, Z: far}}})
		checkInvalid(t, impl.Session{Key: k, Msg: 9})
		right := heldKeyOf(crew{1, 1}, nil, []int{5}).key
		checkInvalid(t, impl.Session{Key: right, Msg: 9, All: []impl.Shown{{Member: far, R: far, On: true, Z: far}}})
		checkInvalid(t, impl.Session{Key: right, Msg: far, All: []impl.Shown{{Member: 1, R: 1}}})
	}
}

// P105: whatever has arrived, right or wrong.
func TestSessionRIsTheProductOfAllNonceCommitments(t *testing.T) {
	for _, m := range meetings() {
		s := m.session()
		product := 1
		for _, shown := range s.All {
			product = impl.GroupMul(product, shown.R)
		}
		checkSessionR(t, s, m.r())
		checkSessionR(t, s, product)
		checkSessionR(t, m.signed(), product)
		for i, member := range m.members {
			s = put(t, s, member, (i+3*m.msg)%23)
			checkSessionR(t, s, product)
		}
	}
}

// P105: every pair of nonce commitments.
func TestSessionROfEachTwoNonceCommitments(t *testing.T) {
	k := heldKeyOf(crew{2, 3}, nil, []int{12, 4}).key
	for i, first := range groupPowers() {
		for j, second := range groupPowers() {
			checkSessionR(t, begun(t, k, 9, []int{1, 3}, []int{first, second}), power(i+j))
			checkSessionR(t, begun(t, k, 9, []int{1, 2, 3}, []int{first, second, first}), power(2*i+j))
		}
	}
}

// P106: every signer and partial signature, which is the first one, one more, or one in place of another.
func TestSessionPutStoresThePart(t *testing.T) {
	for _, m := range meetings() {
		none, all := m.session(), m.signed()
		for i, member := range m.members {
			for z := range 23 {
				put(t, none, member, z)
				put(t, all, member, z)
				put(t, withPart(none, len(m.members)-1, 7), member, z)
				again := put(t, put(t, none, member, (z+i)%23), member, z)
				if first := put(t, none, member, z); !sameSession(again, first) {
					t.Errorf("%v after another part, %v before", again, first)
				}
			}
		}
	}
}

// P106: a part 0 that has arrived is another thing than one that has not.
func TestAPart0ArrivesToo(t *testing.T) {
	for _, m := range meetings() {
		s := m.session()
		for i, member := range m.members {
			zero := put(t, s, member, 0)
			if !zero.All[i].On || zero.All[i].Z != 0 || sameSession(zero, s) {
				t.Errorf("%v is the same as %v", zero, s)
			}
			if m.parts()[i] == 0 {
				checkSessionBad(t, zero)
			} else {
				checkSessionBad(t, zero, member)
			}
			checkSessionBad(t, s)
		}
	}
}

// P106: everyone else, members of the committee that do not sign included.
func TestSessionPutFailsForAMemberThatIsNotASigner(t *testing.T) {
	for _, m := range meetings() {
		others := slices.DeleteFunc(upTo(6), func(n int) bool { return slices.Contains(m.members, n) })
		for _, s := range []impl.Session{m.session(), m.signed(), withPart(m.session(), 0, 22)} {
			for _, member := range slices.Concat(others, outsideMembers()) {
				for _, z := range []int{0, 1, 22} {
					checkNotPut(t, s, member, z)
				}
				for _, bad := range []int{-1, 23, math.MinInt, math.MaxInt} {
					checkNothingPut(t, s, member, bad)
				}
			}
		}
	}
}

// Section of SessionPut: no field element, by signers and by others.
func TestSessionPutOfNoFieldElementGivesNothing(t *testing.T) {
	for _, m := range fewMeetings() {
		for _, s := range []impl.Session{m.session(), m.signed()} {
			for _, member := range append(outsideMembers(), 1, 2, 3, 4, 5) {
				for _, bad := range outsideField() {
					checkNothingPut(t, s, member, bad)
				}
			}
		}
	}
}

// States of a part in a session.
const (
	partMissing = iota
	partRight
	partWrong
	partZero
)

// inState returns the session of the meeting with its parts in the states, and who is wrong.
func (m meeting) inState(states []int) (s impl.Session, wrong []int) {
	s = m.session()
	for i, part := range m.parts() {
		member := m.members[i]
		switch states[i] {
		case partRight:
			s = withPart(s, i, part)
		case partWrong:
			s = withPart(s, i, (part+1+(m.msg+7*i)%22)%23)
			wrong = append(wrong, member)
		case partZero:
			s = withPart(s, i, 0)
			if part != 0 {
				wrong = append(wrong, member)
			}
		}
	}
	return s, wrong
}

// P107 and P108: parts in all states.
func TestWhoIsWrongAndWhetherItIsSigned(t *testing.T) {
	for _, m := range meetings() {
		for _, states := range tuples([]int{partMissing, partRight, partWrong, partZero}, len(m.members)) {
			s, wrong := m.inState(states)
			checkSessionOk(t, s, true)
			checkSessionBad(t, s, wrong...)
			if len(wrong) > 0 || slices.Contains(states, partMissing) {
				checkNoSessionSig(t, s)
			} else {
				checkSessionSig(t, s, m.sig())
			}
		}
	}
}

// P107, by the function that the promise names, with every part of every signer beside those of the others.
func TestSessionBadIsWhoFailsSignFits(t *testing.T) {
	for n, m := range meetings() {
		for _, s := range []impl.Session{m.session(), m.signed()} {
			for z := range 23 {
				for i, member := range m.members {
					s = put(t, s, member, (z*(i+1)+n)%23)
				}
				var wrong []int
				for _, shown := range s.All {
					if !impl.SignFits(s.Key, m.members, shown.Member, shown.R, impl.SessionR(s), s.Msg, shown.Z) {
						wrong = append(wrong, shown.Member)
					}
				}
				checkSessionBad(t, s, wrong...)
			}
		}
	}
}

// P107: parts that would do with the nonce commitments of other signers.
func TestPartsForOtherNonceCommitmentsAreWrong(t *testing.T) {
	for _, c := range crews() {
		k := heldKeyOf(c, nil, polynomialOf(c))
		for _, members := range signerLists(c) {
			m := meetingOf(k, 9, members, []int{3, 5, 0, 22, 11})
			s := m.session()
			var wrong []int
			for i, member := range members {
				next := m.drawn[(i+1)%len(members)]
				s = put(t, s, member, (m.parts()[i]+23-m.drawn[i]+next)%23)
				if next != m.drawn[i] {
					wrong = append(wrong, member)
				}
			}
			checkSessionBad(t, s, wrong...)
		}
	}
}

// P108: without any one of the parts there is no signature, although nobody is wrong and what is missing may be 0.
func TestEachPartIsNeeded(t *testing.T) {
	zeros := 0
	for _, m := range meetings() {
		s := m.signed()
		checkSessionSig(t, s, m.sig())
		for i, shown := range s.All {
			missing := withShown(s, i, impl.Shown{Member: shown.Member, R: shown.R})
			checkSessionBad(t, missing)
			checkNoSessionSig(t, missing)
			if shown.Z == 0 {
				zeros++
			}
		}
	}
	if zeros == 0 {
		t.Error("no right part is 0")
	}
}

// P108: keys that a committee made, and parts that the program made.
func TestMadeKeysSignInSessions(t *testing.T) {
	for _, c := range crews() {
		for i, k := range heldKeys(t, c) {
			for j, members := range signerLists(c) {
				if c.many > 3 && i%7 != j%7 { // of the many keys, each signs with some lists
					continue
				}
				m := meetingOf(k, messages()[(i+j)%8], members, nonceLists()[j%4])
				s := begun(t, k.key, m.msg, members, m.shown())
				for n, member := range members {
					z := signing{k.key, members, k.held[member-1], impl.SessionR(s), m.msg, m.drawn[n]}.part(t)
					s = put(t, s, member, z)
				}
				checkSessionBad(t, s)
				checkSessionSig(t, s, m.sig())
			}
		}
	}
}

// P109: every other part of every signer, alone and beside those of the others.
func TestEveryOtherPartIsFoundOut(t *testing.T) {
	for _, m := range meetings() {
		none, all := m.session(), m.signed()
		for i, member := range m.members {
			for added := 1; added < 23; added++ {
				wrong := (m.parts()[i] + added) % 23
				checkSessionBad(t, put(t, all, member, wrong), member)
				checkNoSessionSig(t, put(t, all, member, wrong))
				checkSessionBad(t, put(t, none, member, wrong), member)
				checkNoSessionSig(t, put(t, none, member, wrong))
			}
		}
	}
}

// P109: two parts that are wrong by as much as makes up for each other.
func TestWrongPartsDoNotMakeUpForEachOther(t *testing.T) {
	for _, m := range meetings() {
		parts := m.parts()
		for i, first := range m.members {
			for j, second := range m.members[:i] {
				for _, added := range []int{1, 11, 22} {
					s := put(t, m.signed(), first, (parts[i]+added)%23)
					s = put(t, s, second, (parts[j]+23-added)%23)
					checkSessionBad(t, s, second, first)
					checkNoSessionSig(t, s)
				}
			}
		}
	}
}

// P109 and P110: one signer uses another share than its own, and is found out unless the challenge is 0.
func TestAWrongShareIsFoundOut(t *testing.T) {
	for n, m := range meetings() {
		challenge := challengeOf(m.r(), power(m.secret), m.msg)
		for i, member := range m.members {
			wrong := impl.Held{Member: member, Share: (m.held[member-1].Share + 1 + n%22) % 23}
			s := put(t, m.signed(), member, signing{m.key, m.members, wrong, m.r(), m.msg, m.drawn[i]}.part(t))
			if challenge == 0 {
				checkSessionSig(t, s, m.sig())
			} else {
				checkSessionBad(t, s, member)
				checkNoSessionSig(t, s)
			}
		}
	}
}

// P110: every order of up to five signers.
func TestPartsAreSignedInAnyOrder(t *testing.T) {
	for _, m := range fewMeetings() {
		for _, order := range arrangements(m.members, len(m.members)) {
			m.checkOrder(t, order)
		}
	}
	for _, m := range meetings() {
		m.checkOrder(t, m.members)
		m.checkOrder(t, reversed(m.members))
	}
}

// P112: every two signers, with any parts, where others have arrived or not.
func TestTwoPartsInEitherOrderGiveTheSame(t *testing.T) {
	for n, m := range meetings() {
		for _, s := range []impl.Session{m.session(), m.signed()} {
			for i, first := range m.members {
				for j, second := range m.members[:i] {
					for z := range 23 {
						one, two := (z+m.parts()[i])%23, (5*z+n+j)%23
						a := put(t, put(t, s, first, one), second, two)
						b := put(t, put(t, s, second, two), first, one)
						if !sameSession(a, b) {
							t.Errorf("%v in one order, %v in the other", a, b)
						}
					}
				}
			}
		}
	}
}

// P113: of all parts, one; a right part in place of a wrong one, and twice the same.
func TestExactlyOnePartOfEachSignerIsNotBad(t *testing.T) {
	for n, m := range meetings() {
		states := make([]int, len(m.members))
		for i := range states {
			states[i] = (n + i) % 4
		}
		mixed, _ := m.inState(states)
		for _, s := range []impl.Session{m.session(), m.signed(), mixed} {
			for i, member := range m.members {
				var right []int
				for z := range 23 {
					if !slices.Contains(impl.SessionBad(put(t, s, member, z)), member) {
						right = append(right, z)
					}
				}
				if !slices.Equal(right, []int{m.parts()[i]}) {
					t.Errorf("the right parts of %d in %v are %v, not %d", member, s, right, m.parts()[i])
				}
			}
		}
	}
}

// P113: a wrong part is put right, and put in twice.
func TestAWrongPartIsPutRight(t *testing.T) {
	for _, m := range meetings() {
		for i, member := range m.members {
			part := m.parts()[i]
			s := put(t, m.signed(), member, (part+1)%23)
			checkSessionBad(t, s, member)
			s = put(t, s, member, part)
			checkSessionBad(t, s)
			checkSessionSig(t, s, m.sig())
			if again := put(t, s, member, part); !sameSession(again, s) {
				t.Errorf("%v became %v", s, again)
			}
		}
	}
}

// P104 to P110, as values: the shares of a key of 12+4x are 16, 20 and 1, and the third message has the challenge 0.
func TestSessionsAtNamedValues(t *testing.T) {
	k := impl.Key{Need: 2, Many: 3, Good: []int{1, 2}, Commit: []int{7, 16}}
	for _, c := range []struct {
		members, shown []int
		r, msg         int
		parts          []int
		z              int
	}{
		{[]int{1, 2}, []int{8, 32}, 21, 9, []int{7, 14}, 21},
		{[]int{1, 3}, []int{8, 32}, 21, 9, []int{6, 15}, 21},
		{[]int{1, 3}, []int{8, 32}, 21, 15, []int{3, 5}, 8},
		{[]int{1, 2, 3}, []int{8, 32, 1}, 21, 9, []int{9, 9, 3}, 21},
		{[]int{1, 3}, []int{1, 1}, 1, 0, []int{11, 6}, 17},
		{[]int{1, 2, 3}, []int{24, 24, 24}, 6, 99, []int{18, 4, 20}, 19},
	} {
		s := begun(t, k, c.msg, c.members, c.shown)
		checkSessionR(t, s, c.r)
		for i, member := range c.members {
			checkSessionBad(t, put(t, s, member, (c.parts[i]+1)%23), member)
			s = put(t, s, member, c.parts[i])
			checkSessionBad(t, s)
		}
		checkSessionSig(t, s, impl.Sig{R: c.r, Z: c.z})
	}
}

// P99, P108 and P110: a key after it was refreshed and handed on signs under the same public key.
func TestRefreshedAndHandedOnKeysSignInSessions(t *testing.T) {
	for i, pair := range crewPairs() {
		k := refreshables(pair.old)[i%4]
		deals := freshDeals(pair.old, upTo(pair.old.many)...)
		fresh := heldKey{refreshed(t, k.key, deals), refreshedShares(t, k.key, deals, k.held), k.secret}
		hands := made(t, fresh.held, pair.next, i)
		next := heldKey{handedKey(t, fresh.key, hands, pair.next), handedShares(t, fresh.key, hands, pair.next), k.secret}
		for j, members := range signerLists(pair.next) {
			m := meetingOf(next, (i+7*j)%100, members, nonceLists()[j%4])
			sig, ok := impl.SessionSig(m.signed())
			if !ok {
				t.Errorf("%v do not sign by %v", members, next)
			}
			checkSigOk(t, impl.KeyPub(k.key), m.msg, sig, true)
		}
	}
}

// General rules: nothing is kept from one call to the next, whatever was asked in between.
func TestSessionsKeepNoState(t *testing.T) {
	k := heldKeyOf(crew{2, 3}, []int{1, 2}, []int{12, 4})
	m := meetingOf(k, 9, []int{1, 3}, []int{3, 0, 5})
	other := meetingOf(k, 50, upTo(3), []int{1, 2, 3})
	for range 20 {
		m.checkOrder(t, []int{3, 1})
		checkInvalid(t, impl.Session{Key: k.key, Msg: 9})
		checkSessionBad(t, withPart(m.signed(), 1, 16), 3)
		checkSessionSig(t, other.signed(), other.sig())
		checkSessionBad(t, m.session())
		checkNoSessionSig(t, m.session())
		checkNotPut(t, m.session(), 2, 9)
		checkSessionR(t, m.session(), 21)
	}
}

// withRoomForShown returns a copy of the list with spare capacity, and the whole array below it.
func withRoomForShown(all []impl.Shown) (copied, whole []impl.Shown) {
	whole = append(slices.Clone(all), impl.Shown{Member: 91, R: 92}, impl.Shown{Member: 93, Z: 94})
	return whole[:len(all)], whole
}

// overwriteSession changes all that is reachable through the session, its spare capacity included.
func overwriteSession(s impl.Session) {
	overwrite(s.Key.Good)
	overwrite(s.Key.Commit)
	all := s.All[:cap(s.All)]
	for i := range all {
		all[i] = impl.Shown{Member: -77, R: -77, On: true, Z: -77}
	}
}

// wholeSession is a session each list of which has spare capacity, with the arrays below them.
type wholeSession struct {
	session      impl.Session
	good, commit []int
	all          []impl.Shown
}

func wholeOf(s impl.Session) wholeSession {
	w := wholeSession{session: s}
	w.session.Key.Good, w.good = withRoom(s.Key.Good)
	w.session.Key.Commit, w.commit = withRoom(s.Key.Commit)
	w.session.All, w.all = withRoomForShown(s.All)
	return w
}

// look writes all down that is reachable through the session.
func (w wholeSession) look() string {
	return fmt.Sprint(w.session, w.good, w.commit, w.all)
}

// checkSessionMemory fails the test if the function changes its session, or if its result shares memory with it or with the result of another call.
func checkSessionMemory(t *testing.T, name string, s impl.Session, function func(s impl.Session) impl.Session) {
	t.Helper()
	given := wholeOf(s)
	before := given.look()
	first := function(given.session)
	second := function(given.session)
	kept := fmt.Sprint(second)
	overwriteSession(first)
	if given.look() != before {
		t.Errorf("%s: %s became %s", name, before, given.look())
	}
	if fmt.Sprint(second) != kept {
		t.Errorf("%s of %v: two results share memory", name, s)
	}
	overwriteSession(given.session)
	if fmt.Sprint(second) != kept {
		t.Errorf("%s of %v: the result is %v after the argument is overwritten", name, s, second)
	}
	checkApart(t, name, second.Key.Good, second.Key.Commit)
}

// memorySessions lists sessions to which none, some and all parts have arrived, by keys with and without dealers, and some that are invalid.
func memorySessions() []impl.Session {
	list := []impl.Session{{}}
	for _, m := range fewMeetings() {
		for _, good := range [][]int{nil, {5}, upTo(5), {2, 1}} {
			m.key.Good = good
			bad := m.session()
			bad.Msg = 100
			list = append(list, m.session(), m.signed(), withPart(m.session(), 0, 22), withPart(m.signed(), 0, 1), bad)
		}
	}
	return list
}

// General rules: what SessionPut returns is new memory, also where it is the session itself or the part was there.
func TestSessionPutSharesNoMemory(t *testing.T) {
	for _, s := range memorySessions() {
		for _, member := range []int{0, 1, 2, 5, 6, math.MaxInt} {
			for _, z := range []int{0, 22, 23} {
				checkSessionMemory(t, "SessionPut", s, func(s impl.Session) impl.Session {
					next, _ := impl.SessionPut(s, member, z)
					return next
				})
			}
		}
	}
}

// General rules: a result stays as it is when later parts are put in.
func TestSessionsBeforeAPartStayAsTheyAre(t *testing.T) {
	for _, m := range fewMeetings() {
		sessions := []impl.Session{begun(t, m.key, m.msg, m.members, m.shown())}
		for i, member := range m.members {
			sessions = append(sessions, put(t, sessions[i], member, m.parts()[i]))
		}
		for i, s := range sessions {
			for j, shown := range s.All {
				if shown.On != (j < i) {
					t.Errorf("after %d parts, the session is %v", i, s)
				}
			}
		}
	}
}

// General rules: what is told of a session is new memory, and the session stays as it is.
func TestSessionsAreNotChanged(t *testing.T) {
	for _, s := range memorySessions() {
		checkSessionMemory(t, "SessionBad", s, func(s impl.Session) impl.Session {
			impl.SessionOk(s)
			impl.SessionR(s)
			impl.SessionSig(s)
			return impl.Session{Key: impl.Key{Good: impl.SessionBad(s)}}
		})
	}
}

// General rules: SessionNew makes new memory, and its arguments stay as they are, also if two of them are the same.
func TestSessionNewSharesNoMemory(t *testing.T) {
	for _, c := range crews() {
		commit := commitmentTo(polynomialOf(c))
		for _, members := range [][]int{nil, {1}, {2, 1}, upTo(c.need), upTo(c.many), upTo(6)} {
			for _, good := range [][]int{nil, {5}, upTo(5), {2, 1}} {
				begin := func(given [][]int) impl.Session {
					k := impl.Key{Need: c.need, Many: c.many, Good: given[0], Commit: given[1]}
					s, _ := impl.SessionNew(k, 9, given[2], given[3])
					return s
				}
				shown := []int{1, 2, 3, 4, 6, 7}[:len(members)]
				checkMemory(t, "Good of SessionNew", func(given [][]int) []int { return begin(given).Key.Good }, good, commit, members, shown)
				checkMemory(t, "Commit of SessionNew", func(given [][]int) []int { return begin(given).Key.Commit }, good, commit, members, shown)
				first, second := begin([][]int{good, commit, members, shown}), begin([][]int{good, commit, members, shown})
				kept := fmt.Sprint(second)
				overwriteSession(first)
				if fmt.Sprint(second) != kept {
					t.Errorf("two results of SessionNew of %v share memory", members)
				}
				checkApart(t, "SessionNew", second.Key.Good, second.Key.Commit)
			}
		}
		if c.many < 5 { // 1 to 4 are members and group elements
			same := upTo(c.many)
			s := begun(t, impl.Key{Need: c.need, Many: c.many, Good: same, Commit: commit}, 9, same, same)
			overwriteSession(s)
			if !slices.Equal(same, upTo(c.many)) {
				t.Errorf("the members became %v", same)
			}
		}
	}
}
