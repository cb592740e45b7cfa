package tests

import (
	"math"
	"slices"
	"testing"

	"loop.example/wardstaff/impl"
)

// messages lists both ends, two that have the same challenges, and some others.
func messages() []int {
	return []int{0, 1, 9, 22, 23, 50, 98, 99}
}

// outsideMessages lists numbers of no message, those that are congruent to messages modulo 23 included.
func outsideMessages() []int {
	return []int{-1, -2, -14, -22, -23, -99, -100, 100, 101, 122, 123, 199, 1000, math.MinInt32, math.MaxInt32, math.MinInt, math.MinInt + 1, math.MaxInt - 1, math.MaxInt}
}

// challengeOf is HashOf, made without the program.
func challengeOf(r, pub, msg int) int {
	return (5*r + 7*pub + 11*msg + 3) % 23
}

// messageWith is the least message that has the challenge.
func messageWith(r, pub, challenge int) int {
	msg := 0
	for challengeOf(r, pub, msg) != challenge {
		msg++
	}
	return msg
}

// exponentOf looks the group element up.
func exponentOf(n int) int {
	return slices.Index(groupPowers(), n)
}

// power looks the element of the group to the exponent up, which may be any that is not negative.
func power(exponent int) int {
	return groupPowers()[exponent%23]
}

// aloneBy is the signature by the secret, made without the program.
func aloneBy(secret, msg, drawn int) impl.Sig {
	r := power(drawn)
	return impl.Sig{R: r, Z: (drawn + challengeOf(r, power(secret), msg)*secret) % 23}
}

// weightAmong is the weight of the member among the signers, made without the program.
func weightAmong(k heldKey, members []int, member, r, msg int) int {
	return line0(members)[slices.Index(members, member)] * challengeOf(r, power(k.secret), msg) % 23
}

// signedAlone fails the test if there is no such signature.
func signedAlone(t *testing.T, secret, msg, drawn int) impl.Sig {
	t.Helper()
	s, ok := impl.SignAlone(secret, msg, drawn)
	if !ok {
		t.Fatalf("SignAlone(%d, %d, %d) failed", secret, msg, drawn)
	}
	return s
}

func checkNotSignedAlone(t *testing.T, secret, msg, drawn int) {
	t.Helper()
	if s, ok := impl.SignAlone(secret, msg, drawn); ok || s != (impl.Sig{}) {
		t.Errorf("SignAlone(%d, %d, %d) is %v, %v", secret, msg, drawn, s, ok)
	}
}

func checkSigOk(t *testing.T, pub, msg int, s impl.Sig, want bool) {
	t.Helper()
	if impl.SigOk(pub, msg, s) != want {
		t.Errorf("SigOk(%d, %d, %v) is not %v", pub, msg, s, want)
	}
}

// signing is what a signer signs, and how.
type signing struct {
	key           impl.Key
	members       []int
	held          impl.Held
	r, msg, drawn int
}

// part fails the test if there is no partial signature.
func (s signing) part(t *testing.T) int {
	t.Helper()
	z, ok := impl.SignPart(s.key, s.members, s.held, s.r, s.msg, s.drawn)
	if !ok {
		t.Fatalf("SignPart of %v failed", s)
	}
	return z
}

func (s signing) checkPart(t *testing.T, want int) {
	t.Helper()
	if z := s.part(t); z != want {
		t.Errorf("SignPart of %v is %d, not %d", s, z, want)
	}
}

func (s signing) checkNoPart(t *testing.T) {
	t.Helper()
	if z, ok := impl.SignPart(s.key, s.members, s.held, s.r, s.msg, s.drawn); z != 0 || ok {
		t.Errorf("SignPart of %v is %d, %v", s, z, ok)
	}
}

// checkNone fails the test if there is a partial signature, or one that fits.
func (s signing) checkNone(t *testing.T) {
	t.Helper()
	s.checkNoPart(t)
	for z := range 23 {
		s.checkFits(t, 1, z, false)
	}
}

func (s signing) checkFits(t *testing.T, shown, z int, want bool) {
	t.Helper()
	if impl.SignFits(s.key, s.members, s.held.Member, shown, s.r, s.msg, z) != want {
		t.Errorf("SignFits of %v, of %d and %d, is not %v", s, shown, z, want)
	}
}

// signerLists lists the valid lists of signers: as many as are needed, more, and all.
func signerLists(c crew) [][]int {
	return membersAmong(c, c.need)
}

// nonceLists lists nonces of five members: all 0, all 22, the same ones, and different ones.
func nonceLists() [][]int {
	return [][]int{{0, 0, 0, 0, 0}, {22, 22, 22, 22, 22}, {3, 5, 0, 22, 11}, {9, 9, 14, 1, 0}}
}

// signedBy is what the signers make together: their parts, and the signature that these add up to.
type signedBy struct {
	sig    impl.Sig
	parts  []int
	nonces int
}

// signedTogether lets the members sign with their shares by the program, where drawn are the nonces of all members, and adds up.
func signedTogether(t *testing.T, k heldKey, members []int, msg int, drawn []int) signedBy {
	t.Helper()
	s := signedBy{sig: impl.Sig{R: 1}}
	for _, member := range members {
		s.sig.R = s.sig.R * power(drawn[member-1]) % 47
		s.nonces = (s.nonces + drawn[member-1]) % 23
	}
	for _, member := range members {
		z := signing{k.key, members, k.held[member-1], s.sig.R, msg, drawn[member-1]}.part(t)
		s.parts = append(s.parts, z)
		s.sig.Z = (s.sig.Z + z) % 23
	}
	return s
}

// eachSigning calls the function for every list of signers of keys of every committee, with each of them as the signer, and several R, messages and nonces, of which some have the challenge 0.
func eachSigning(function func(k refreshable, s signing)) {
	for _, c := range crews() {
		for i, k := range refreshables(c) {
			for j, members := range signerLists(c) {
				for _, member := range members {
					r := power(7*i + 5*j + member)
					for _, msg := range []int{messages()[(i+j+member)%8], messageWith(r, power(k.secret), 0), messageWith(r, power(k.secret), 1+(i+j)%22)} {
						function(k, signing{k.key, members, k.held[member-1], r, msg, (3*i + j) % 23})
					}
				}
			}
		}
	}
}

func TestMsgMaxIs99(t *testing.T) {
	if impl.MsgMax != 99 {
		t.Errorf("MsgMax is %d", impl.MsgMax)
	}
}

// P93
func TestHashOfOfAllArguments(t *testing.T) {
	for _, r := range groupPowers() {
		for _, pub := range groupPowers() {
			for msg := range 100 {
				if got, want := impl.HashOf(r, pub, msg), challengeOf(r, pub, msg); got != want {
					t.Errorf("HashOf(%d, %d, %d) is %d, not %d", r, pub, msg, got, want)
				}
			}
		}
	}
}

// P93, as values.
func TestHashOfAtNamedValues(t *testing.T) {
	for _, c := range []struct{ r, pub, msg, want int }{
		{8, 32, 9, 21}, {1, 1, 0, 15}, {1, 1, 99, 0}, {42, 42, 99, 9}, {42, 1, 0, 13}, {1, 42, 0, 3}, {21, 7, 3, 6},
	} {
		if got := impl.HashOf(c.r, c.pub, c.msg); got != c.want {
			t.Errorf("HashOf(%d, %d, %d) is %d, not %d", c.r, c.pub, c.msg, got, c.want)
		}
	}
}

// P93: 0 for invalid arguments, each alone and all together.
func TestHashOfOfInvalidArgumentsIs0(t *testing.T) {
	check := func(r, pub, msg int) {
		t.Helper()
		if got := impl.HashOf(r, pub, msg); got != 0 {
			t.Errorf("HashOf(%d, %d, %d) is %d", r, pub, msg, got)
		}
	}
	for _, bad := range outsideGroup() {
		for _, msg := range messages() {
			check(bad, 32, msg)
			check(8, bad, msg)
			check(bad, bad, msg)
		}
	}
	for _, bad := range outsideMessages() {
		for _, n := range groupPowers() {
			check(n, 32, bad)
			check(8, n, bad)
		}
		check(bad, bad, bad)
	}
}

// P94: every secret, message and nonce.
func TestSignAloneIsValidUnderItsPublicKey(t *testing.T) {
	for secret := range 23 {
		for drawn := range 23 {
			for msg := range 100 {
				s := signedAlone(t, secret, msg, drawn)
				if want := aloneBy(secret, msg, drawn); s != want {
					t.Errorf("SignAlone(%d, %d, %d) is %v, not %v", secret, msg, drawn, s, want)
				}
				if s.R != impl.GroupOf(drawn) || s.Z != impl.FieldSum(drawn, impl.FieldMul(impl.HashOf(s.R, impl.GroupOf(secret), msg), secret)) {
					t.Errorf("SignAlone(%d, %d, %d) is %v", secret, msg, drawn, s)
				}
				checkSigOk(t, impl.GroupOf(secret), msg, s, true)
			}
		}
	}
}

// P94, as values; the last but two have the challenge 0.
func TestSignAloneAtNamedValues(t *testing.T) {
	for _, c := range []struct {
		secret, msg, drawn int
		want               impl.Sig
	}{
		{5, 9, 3, impl.Sig{R: 8, Z: 16}},
		{0, 0, 0, impl.Sig{R: 1, Z: 0}},
		{22, 0, 0, impl.Sig{R: 1, Z: 8}},
		{0, 99, 22, impl.Sig{R: 24, Z: 22}},
		{22, 99, 22, impl.Sig{R: 24, Z: 22}},
		{11, 50, 7, impl.Sig{R: 34, Z: 11}},
		{1, 98, 1, impl.Sig{R: 2, Z: 2}},
	} {
		if s := signedAlone(t, c.secret, c.msg, c.drawn); s != c.want {
			t.Errorf("SignAlone(%d, %d, %d) is %v, not %v", c.secret, c.msg, c.drawn, s, c.want)
		}
	}
}

// Section of SignAlone: false and the zero value for invalid arguments, each alone and all together.
func TestSignAloneOfInvalidArgumentsFails(t *testing.T) {
	for _, bad := range outsideField() {
		for _, msg := range messages() {
			for _, n := range secrets() {
				checkNotSignedAlone(t, bad, msg, n)
				checkNotSignedAlone(t, n, msg, bad)
			}
			checkNotSignedAlone(t, bad, msg, bad)
		}
	}
	for _, bad := range outsideMessages() {
		for _, n := range secrets() {
			checkNotSignedAlone(t, n, bad, 3)
			checkNotSignedAlone(t, 5, bad, n)
		}
		checkNotSignedAlone(t, bad, bad, bad)
	}
}

// P95: every R, public key and Z, and every challenge; signatures that SignAlone did not make are among them.
func TestExactlyOneZIsValid(t *testing.T) {
	for _, r := range groupPowers() {
		for _, pub := range groupPowers() {
			for challenge := range 23 {
				msg := messageWith(r, pub, challenge)
				right := (exponentOf(r) + challenge*exponentOf(pub)) % 23
				for z := range 23 {
					checkSigOk(t, pub, msg, impl.Sig{R: r, Z: z}, z == right)
				}
			}
		}
	}
}

// P95: the messages at both ends, and all others.
func TestExactlyOneZIsValidForEachMessage(t *testing.T) {
	for msg := range 100 {
		for n, r := range groupPowers() {
			pub := power(n + msg)
			right := (n + challengeOf(r, pub, msg)*(n+msg)) % 23
			for z := range 23 {
				checkSigOk(t, pub, msg, impl.Sig{R: r, Z: z}, z == right)
			}
		}
	}
}

// Section of SigOk: false for invalid arguments, each alone and all together.
func TestSigOkOfInvalidArgumentsIsFalse(t *testing.T) {
	for _, msg := range messages() {
		for _, bad := range outsideGroup() {
			for z := range 23 {
				checkSigOk(t, bad, msg, impl.Sig{R: 8, Z: z}, false)
				checkSigOk(t, 32, msg, impl.Sig{R: bad, Z: z}, false)
				checkSigOk(t, bad, msg, impl.Sig{R: bad, Z: z}, false)
			}
		}
		for _, bad := range slices.Concat(outsideField(), wrongShares(aloneBy(5, msg, 3).Z)) {
			checkSigOk(t, 32, msg, impl.Sig{R: 8, Z: bad}, false)
		}
	}
	for _, bad := range outsideMessages() {
		for z := range 23 {
			checkSigOk(t, 32, bad, impl.Sig{R: 8, Z: z}, false)
			checkSigOk(t, 1, bad, impl.Sig{R: 1, Z: z}, false) // of a secret 0, for which every challenge does
		}
		checkSigOk(t, bad, bad, impl.Sig{R: bad, Z: bad}, false)
	}
	for msg := range 100 {
		checkSigOk(t, 0, msg, impl.Sig{}, false)
		for _, bad := range []impl.Sig{{R: 0, Z: -1}, {R: 48, Z: 23}, {R: 5, Z: math.MaxInt}} { // where GroupOf and the product are both 0
			checkSigOk(t, 32, msg, bad, false)
			checkSigOk(t, 0, msg, impl.Sig{R: 8, Z: bad.Z}, false)
		}
	}
}

// P96: the secret is found from every pair of messages whose challenges differ.
func TestTheSameNonceForTwoMessagesTellsTheSecret(t *testing.T) {
	for secret := range 23 {
		for drawn := range 23 {
			var sigs []impl.Sig
			for msg := range 100 {
				sigs = append(sigs, signedAlone(t, secret, msg, drawn))
			}
			first := sigs[secret]
			for msg, s := range sigs {
				challenges := impl.FieldDif(impl.HashOf(s.R, impl.GroupOf(secret), msg), impl.HashOf(first.R, impl.GroupOf(secret), secret))
				answers := impl.FieldDif(s.Z, first.Z)
				if s.R != first.R || answers != challenges*secret%23 {
					t.Errorf("the nonce %d gives %v and %v by the secret %d", drawn, s, first, secret)
				}
				if inverse, ok := impl.FieldInv(challenges); ok && answers*inverse%23 != secret {
					t.Errorf("%v and %v do not tell the secret %d", s, first, secret)
				}
			}
		}
	}
}

// P97: every share, of which all but one are wrong.
func TestSignPartIsTheNonceAndTheWeightedShare(t *testing.T) {
	eachSigning(func(k refreshable, s signing) {
		weight := weightAmong(k.heldKey, s.members, s.held.Member, s.r, s.msg)
		if (weight == 0) != (challengeOf(s.r, power(k.secret), s.msg) == 0) {
			t.Fatalf("the weight for %v is %d", s, weight)
		}
		right := s.held.Share
		for share := range 23 {
			s.held.Share = share
			z := (s.drawn + weight*share) % 23
			s.checkPart(t, z)
			s.checkFits(t, power(s.drawn), z, share == right || weight == 0)
			if fits := impl.KeyFits(s.key, s.held.Member, share); fits != (share == right) {
				t.Errorf("KeyFits of the share %d of %v is %v", share, s, fits)
			}
		}
	})
}

// P97, by the functions that the section names.
func TestSignPartIsWeightedByPolyLineAndHashOf(t *testing.T) {
	eachSigning(func(k refreshable, s signing) {
		at := slices.Index(s.members, s.held.Member)
		weight := impl.FieldMul(impl.PolyLine(s.members, 0)[at], impl.HashOf(s.r, impl.KeyPub(s.key), s.msg))
		z := impl.FieldSum(s.drawn, impl.FieldMul(weight, s.held.Share))
		s.checkPart(t, z)
		fits := impl.GroupMul(impl.GroupOf(s.drawn), impl.GroupPow(impl.CommitAt(s.key.Commit, s.held.Member), weight))
		if fits != impl.GroupOf(z) {
			t.Errorf("the part %d of %v commits to %d, not %d", z, s, impl.GroupOf(z), fits)
		}
	})
}

// P97: every message, both ends included.
func TestSignPartOfEachMessage(t *testing.T) {
	for i, c := range crews() {
		k := heldKeyOf(c, nil, polynomialOf(c))
		members := upTo(c.many)
		for msg := range 100 {
			for _, member := range members {
				s := signing{k.key, members, k.held[member-1], power(i + msg), msg, (msg + member) % 23}
				z := (s.drawn + weightAmong(k, members, member, s.r, msg)*s.held.Share) % 23
				s.checkPart(t, z)
				s.checkFits(t, power(s.drawn), z, true)
			}
		}
	}
}

// P97: every R, so that every challenge, with the nonces at both ends.
func TestSignPartOfEachRAndNonce(t *testing.T) {
	for _, c := range crews() {
		k := heldKeyOf(c, []int{5}, polynomialOf(c))
		members := signerLists(c)[0]
		for _, r := range groupPowers() {
			for drawn := range 23 {
				s := signing{k.key, members, k.held[members[0]-1], r, 99, drawn}
				z := (drawn + weightAmong(k, members, members[0], r, 99)*s.held.Share) % 23
				s.checkPart(t, z)
				s.checkFits(t, power(drawn), z, true)
			}
		}
	}
}

// P97: the share of another member is a wrong one, unless both are the same or the weight is 0.
func TestThePartByTheShareOfAnotherMemberDoesNotFit(t *testing.T) {
	eachSigning(func(k refreshable, s signing) {
		weight := weightAmong(k.heldKey, s.members, s.held.Member, s.r, s.msg)
		right := s.held.Share
		for _, other := range k.held {
			s.held.Share = other.Share
			s.checkFits(t, power(s.drawn), s.part(t), other.Share == right || weight == 0)
		}
	})
}

// P98: every nonce commitment and every partial signature.
func TestExactlyOnePartFitsEachSigner(t *testing.T) {
	eachSigning(func(k refreshable, s signing) {
		weighted := weightAmong(k.heldKey, s.members, s.held.Member, s.r, s.msg) * s.held.Share
		for _, nonce := range []int{0, 22, s.drawn, (weighted + 1) % 23} {
			for z := range 23 {
				s.checkFits(t, power(nonce), z, z == (nonce+weighted)%23)
			}
		}
	})
}

// P98: the nonce commitment is one thing, and the product of all another.
func TestEveryNonceCommitmentGivesAnotherPart(t *testing.T) {
	for _, c := range crews() {
		k := heldKeyOf(c, upTo(c.many), polynomialOf(c))
		for _, members := range signerLists(c) {
			s := signing{key: k.key, members: members, held: k.held[members[0]-1], r: 17, msg: 50}
			weighted := weightAmong(k, members, members[0], 17, 50) * s.held.Share
			for nonce, shown := range groupPowers() {
				for z := range 23 {
					s.checkFits(t, shown, z, z == (nonce+weighted)%23)
				}
			}
		}
	}
}

// P99 and P100: keys with the secrets 0 and 22 and any dealers, signed with by every list of signers.
func TestTogetherTheySignAsTheWholeKey(t *testing.T) {
	for _, c := range crews() {
		for _, k := range refreshables(c) {
			for _, members := range signerLists(c) {
				for _, drawn := range nonceLists() {
					for _, msg := range messages() {
						s := signedTogether(t, k.heldKey, members, msg, drawn)
						checkSigOk(t, power(k.secret), msg, s.sig, true)
						if want := aloneBy(k.secret, msg, s.nonces); s.sig != want {
							t.Errorf("%v sign %d with %v as %v, not %v", members, msg, k, s.sig, want)
						}
					}
				}
			}
		}
	}
}

// P99 and P100, by the functions that the promises name, for keys that a committee made.
func TestTogetherTheySignByMadeKeys(t *testing.T) {
	for _, c := range crews() {
		for i, k := range heldKeys(t, c) {
			for j, members := range signerLists(c) {
				if c.many > 3 && i%7 != j%7 { // of the many keys, each is signed with by some lists
					continue
				}
				msg := messages()[(i+j)%8]
				s := signedTogether(t, k, members, msg, nonceLists()[j%4])
				checkSigOk(t, impl.KeyPub(k.key), msg, s.sig, true)
				secret := secretOf(t, c.need, heldAmong(k.held, members))
				if want := signedAlone(t, secret, msg, s.nonces); s.sig != want {
					t.Errorf("%v sign %d with %v as %v, not %v", members, msg, k, s.sig, want)
				}
			}
		}
	}
}

// P99 and P100: a key after it was refreshed and handed on.
func TestTogetherTheySignByRefreshedAndHandedOnKeys(t *testing.T) {
	for i, pair := range crewPairs() {
		k := refreshables(pair.old)[i%4]
		deals := freshDeals(pair.old, upTo(pair.old.many)...)
		fresh := heldKey{refreshed(t, k.key, deals), refreshedShares(t, k.key, deals, k.held), k.secret}
		hands := made(t, fresh.held, pair.next, i)
		next := heldKey{handedKey(t, fresh.key, hands, pair.next), handedShares(t, fresh.key, hands, pair.next), k.secret}
		for j, members := range signerLists(pair.next) {
			msg := (i + 7*j) % 100
			s := signedTogether(t, next, members, msg, nonceLists()[j%4])
			checkSigOk(t, impl.KeyPub(k.key), msg, s.sig, true)
		}
		for j, members := range signerLists(pair.old) {
			msg := (i + 7*j) % 100
			s := signedTogether(t, fresh, members, msg, nonceLists()[j%4])
			checkSigOk(t, impl.KeyPub(k.key), msg, s.sig, true)
		}
	}
}

// P99: each part is taken just once; without it, or with it twice, the sum is wrong unless the part is 0.
func TestEachPartIsTakenOnce(t *testing.T) {
	for _, c := range crews() {
		k := heldKeyOf(c, upTo(c.many), polynomialOf(c))
		for _, members := range signerLists(c) {
			for _, drawn := range nonceLists() {
				for _, msg := range messages() {
					s := signedTogether(t, k, members, msg, drawn)
					for _, part := range s.parts {
						for _, z := range []int{s.sig.Z + 23 - part, s.sig.Z + part} {
							checkSigOk(t, power(k.secret), msg, impl.Sig{R: s.sig.R, Z: z % 23}, part == 0)
						}
					}
				}
			}
		}
	}
}

// P99: one wrong share, of which the weight is not 0, makes the sum wrong.
func TestAWrongShareMakesTheSumWrong(t *testing.T) {
	for _, c := range crews() {
		k := heldKeyOf(c, nil, polynomialOf(c))
		for i, members := range signerLists(c) {
			for _, msg := range messages() {
				drawn := nonceLists()[i%4]
				for _, member := range members {
					wrong := k
					wrong.held = heldWith(k.held, member-1, (k.held[member-1].Share+1+i%22)%23)
					s := signedTogether(t, wrong, members, msg, drawn)
					right := challengeOf(s.sig.R, power(k.secret), msg) == 0
					checkSigOk(t, power(k.secret), msg, s.sig, right)
				}
			}
		}
	}
}

// P97 to P100, as values: the shares of a key of 12+4x are 16, 20 and 1.
func TestSigningTogetherAtNamedValues(t *testing.T) {
	k := impl.Key{Need: 2, Many: 3, Good: []int{1, 2}, Commit: []int{7, 16}}
	held := heldBy(upTo(3), []int{16, 20, 1})
	for _, c := range []struct {
		members, drawn, shown []int
		r, msg                int
		parts                 []int
		z                     int
	}{
		{[]int{1, 2}, []int{3, 5}, []int{8, 32}, 21, 9, []int{7, 14}, 21},
		{[]int{1, 3}, []int{3, 5}, []int{8, 32}, 21, 9, []int{6, 15}, 21},
		{[]int{2, 3}, []int{3, 5}, []int{8, 32}, 21, 9, []int{22, 22}, 21},
		{[]int{1, 2, 3}, []int{3, 5, 0}, []int{8, 32, 1}, 21, 9, []int{9, 9, 3}, 21},
		{[]int{1, 3}, []int{0, 0}, []int{1, 1}, 1, 0, []int{11, 6}, 17},
		{[]int{1, 2, 3}, []int{22, 22, 22}, []int{24, 24, 24}, 6, 99, []int{18, 4, 20}, 19},
		{[]int{1, 3}, []int{3, 5}, []int{8, 32}, 21, 15, []int{3, 5}, 8}, // the challenge is 0
		{[]int{1, 3}, []int{3, 5}, []int{8, 32}, 21, 84, []int{3, 5}, 8},
	} {
		for i, member := range c.members {
			s := signing{k, c.members, held[member-1], c.r, c.msg, c.drawn[i]}
			s.checkPart(t, c.parts[i])
			s.checkFits(t, c.shown[i], c.parts[i], true)
			s.checkFits(t, c.shown[i], (c.parts[i]+1)%23, false)
		}
		checkSigOk(t, 7, c.msg, impl.Sig{R: c.r, Z: c.z}, true)
	}
}

// P101: every other Z.
func TestAnotherZIsFoundOut(t *testing.T) {
	for secret := range 23 {
		for drawn := range 23 {
			for _, msg := range messages() {
				s := signedAlone(t, secret, msg, drawn)
				for added := 1; added < 23; added++ {
					checkSigOk(t, impl.GroupOf(secret), msg, impl.Sig{R: s.R, Z: (s.Z + added) % 23}, false)
				}
			}
		}
	}
}

// P101: every other message.
func TestAnotherMessageIsFoundOut(t *testing.T) {
	for secret := range 23 {
		for drawn := range 23 {
			pub := impl.GroupOf(secret)
			for _, msg := range messages() {
				s := signedAlone(t, secret, msg, drawn)
				for other := range 100 {
					checkSigOk(t, pub, other, s, secret == 0 || challengeOf(s.R, pub, other) == challengeOf(s.R, pub, msg))
				}
			}
		}
	}
}

// P102: every set of signers of every committee, for each number of a member near the range.
func TestSignPartFailsForTooFewSignersAndForOthers(t *testing.T) {
	for _, c := range crews() {
		k := heldKeyOf(c, upTo(c.many), polynomialOf(c))
		for i, members := range memberSets() {
			valid := len(members) >= c.need && (len(members) == 0 || members[len(members)-1] <= c.many)
			for member := -1; member <= 7; member++ {
				s := signing{k.key, members, impl.Held{Member: member, Share: 5}, 8, i, 3}
				if valid && slices.Contains(members, member) {
					s.checkPart(t, (3+5*weightAmong(k, members, member, 8, i))%23)
				} else {
					s.checkNone(t)
				}
			}
		}
	}
}

// P102: members that are far from any.
func TestSignPartFailsForMembersOutside(t *testing.T) {
	for _, c := range crews() {
		k := heldKeyOf(c, upTo(c.many), polynomialOf(c))
		for _, members := range signerLists(c) {
			for _, member := range outsideMembers() {
				signing{k.key, members, impl.Held{Member: member, Share: 5}, 8, 9, 3}.checkNone(t)
			}
		}
	}
}

// Sections of SignPart and SignFits: the signers are ascending, and of the committee; every list of up to four near the range.
func TestSignersAreAscendingMembers(t *testing.T) {
	for _, c := range crews() {
		k := heldKeyOf(c, nil, polynomialOf(c))
		for length := 0; length <= 4; length++ {
			for _, members := range tuples([]int{0, 1, 2, 3, 4, 5, 6}, length) {
				valid := length >= c.need && slices.IsSorted(members) && len(slices.Compact(slices.Clone(members))) == length
				valid = valid && (length == 0 || members[0] >= 1 && members[length-1] <= c.many)
				for _, member := range members {
					s := signing{k.key, members, impl.Held{Member: member, Share: 5}, 8, 9, 3}
					if valid {
						s.checkPart(t, (3+5*weightAmong(k, members, member, 8, 9))%23)
					} else {
						s.checkNoPart(t)
						s.checkFits(t, power(3), 3, false)
					}
				}
			}
		}
	}
}

// Sections of SignPart and SignFits: lists of signers with one thing wrong each, at each position, and long ones.
func TestSignersThatAreNoneDoNotSign(t *testing.T) {
	for _, c := range crews() {
		k := heldKeyOf(c, upTo(c.many), polynomialOf(c))
		lists := [][]int{nil, {}, make([]int, 100), upTo(100), upTo(6), upTo(c.many + 1), reversed(upTo(5)), {1, 2, 3, 4, 5, 5}, {0, 1, 2, 3, 4, 5}}
		for _, members := range signerLists(c) {
			for i, member := range members {
				lists = append(lists, slices.Insert(slices.Clone(members), i, member))
				for _, bad := range append(outsideMembers(), c.many+1) {
					lists = append(lists, with(members, i, bad))
				}
			}
			for _, bad := range append(outsideMembers(), c.many+1) {
				lists = append(lists, append(slices.Clone(members), bad), slices.Concat([]int{bad}, members))
			}
			if len(members) > 1 {
				lists = append(lists, reversed(members))
			}
		}
		for _, far := range []int{math.MinInt, math.MaxInt} {
			lists = append(lists, []int{far}, []int{far, far}, []int{far, 1}, []int{1, far})
		}
		for _, members := range lists {
			for _, member := range append([]int{1, c.many, 0}, members...) {
				for _, share := range []int{0, 22} {
					signing{k.key, members, impl.Held{Member: member, Share: share}, 8, 9, 0}.checkNone(t)
				}
				if len(members) > 6 {
					break
				}
			}
		}
	}
}

// Section of SignPart: false for each number that is none, those that are congruent to the right ones included.
func TestSignPartOfInvalidArgumentsFails(t *testing.T) {
	for _, c := range crews() {
		k := heldKeyOf(c, upTo(c.many), polynomialOf(c))
		for _, members := range signerLists(c) {
			for _, member := range members {
				right := signing{k.key, members, k.held[member-1], 8, 9, 3}
				share := right.held.Share
				for _, bad := range append(outsideField(), share+23, share-23, 3+23, 3-23) {
					s := right
					s.held.Share = bad
					s.checkNoPart(t)
					s.drawn = bad
					s.checkNoPart(t)
					s.held.Share = share
					s.checkNoPart(t)
				}
				for _, bad := range outsideGroup() {
					s := right
					s.r = bad
					s.checkNoPart(t)
				}
				for _, bad := range outsideMessages() {
					s := right
					s.msg = bad
					s.checkNoPart(t)
				}
			}
		}
	}
}

// Section of SignFits: false for each number that is none, whatever the others are.
func TestSignFitsOfInvalidArgumentsIsFalse(t *testing.T) {
	for _, c := range crews() {
		k := heldKeyOf(c, upTo(c.many), polynomialOf(c))
		for _, members := range signerLists(c) {
			member := members[len(members)-1]
			right := signing{k.key, members, k.held[member-1], 8, 9, 3}
			z := right.part(t)
			right.checkFits(t, 8, z, true)
			for _, bad := range append(outsideField(), z+23, z-23, z+23000) {
				right.checkFits(t, 8, bad, false)
			}
			for _, bad := range outsideGroup() {
				s := right
				s.r = bad
				for z := range 23 {
					right.checkFits(t, bad, z, false)
					s.checkFits(t, 8, z, false)
				}
				right.checkFits(t, bad, -1, false) // where GroupOf and the product are both 0
				right.checkFits(t, bad, 23, false)
			}
			for _, bad := range outsideMessages() {
				s := right
				s.msg = bad
				for z := range 23 {
					s.checkFits(t, 8, z, false)
				}
			}
		}
	}
}

// Sections of SignPart and SignFits: nobody signs with an invalid key.
func TestNobodySignsWithAnInvalidKey(t *testing.T) {
	for _, c := range crews() {
		held := heldOf(polynomialOf(c), upTo(5))
		for _, k := range invalidKeys(c) {
			for _, members := range [][]int{nil, {1}, upTo(c.need), upTo(c.many), upTo(5), upTo(6)} {
				signing{k, members, held[0], 8, 9, 3}.checkNone(t)
			}
		}
	}
	for _, far := range []int{math.MinInt, math.MaxInt} {
		k := impl.Key{Need: far, Many: far, Good: []int{far}, Commit: []int{far}}
		signing{k, []int{far}, impl.Held{Member: far, Share: far}, far, far, far}.checkNone(t)
		signing{k, nil, impl.Held{}, 8, 9, 3}.checkNone(t)
		signing{impl.Key{}, []int{far}, impl.Held{Member: far, Share: 5}, 8, 9, 3}.checkNone(t)
	}
	signing{impl.Key{}, nil, impl.Held{}, 1, 0, 0}.checkNone(t)
	signing{impl.Key{}, []int{0}, impl.Held{}, 1, 0, 0}.checkNone(t)
}

// Sections of SignPart and SignFits: which dealers made the key does not matter, nor to what it commits.
func TestSigningByEveryValidKey(t *testing.T) {
	for _, c := range crews() {
		for _, key := range validKeys(c) {
			var p []int
			for _, n := range key.Commit {
				p = append(p, exponentOf(n))
			}
			k := heldKey{key, heldOf(p, upTo(c.many)), p[0]}
			for _, members := range [][]int{upTo(c.need), upTo(c.many)} {
				for _, member := range members {
					s := signing{key, members, k.held[member-1], 21, 7, 11}
					part := (11 + weightAmong(k, members, member, 21, 7)*s.held.Share) % 23
					s.checkPart(t, part)
					for z := range 23 {
						s.checkFits(t, power(11), z, z == part)
					}
				}
			}
		}
	}
}

// P103: every nonce, increased by every amount; the part fits the commitment to the new nonce, and to no other.
func TestIncreasingTheNonceIncreasesThePart(t *testing.T) {
	eachSigning(func(k refreshable, s signing) {
		before, z := s.drawn, s.part(t)
		for added := range 23 {
			s.drawn = (before + added) % 23
			increased := (z + added) % 23
			s.checkPart(t, increased)
			s.checkFits(t, impl.GroupOf(s.drawn), increased, true)
			s.checkFits(t, impl.GroupOf(before), increased, added == 0)
			s.checkFits(t, impl.GroupOf(s.drawn), z, added == 0)
		}
	})
}

// General rules: nothing is kept from one call to the next, whatever was asked in between.
func TestSigningKeepsNoState(t *testing.T) {
	k := impl.Key{Need: 2, Many: 3, Good: []int{1, 2}, Commit: []int{7, 16}}
	right := signing{k, []int{1, 3}, impl.Held{Member: 3, Share: 1}, 21, 9, 5}
	other := signing{k, []int{1, 2, 3}, impl.Held{Member: 3, Share: 1}, 21, 9, 0}
	few := signing{k, []int{3}, impl.Held{Member: 3, Share: 1}, 21, 9, 5}
	for range 20 {
		right.checkPart(t, 15)
		few.checkNone(t)
		other.checkPart(t, 3)
		right.checkFits(t, 32, 15, true)
		right.checkFits(t, 32, 16, false)
		checkSigOk(t, 7, 9, impl.Sig{R: 21, Z: 21}, true)
		checkSigOk(t, 7, 9, impl.Sig{R: 21, Z: 20}, false)
		checkNotSignedAlone(t, 5, 100, 3)
		if s := signedAlone(t, 5, 9, 3); s != (impl.Sig{R: 8, Z: 16}) {
			t.Errorf("SignAlone(5, 9, 3) is %v", s)
		}
	}
}

// General rules: arguments stay as they are, what lies behind their ends included. No result has memory to share.
func TestSigningChangesNoArgument(t *testing.T) {
	for _, c := range crews() {
		for _, k := range []impl.Key{heldKeyOf(c, upTo(c.many), polynomialOf(c)).key, {Need: c.need, Many: c.many, Good: []int{2, 1}, Commit: []int{5}}} {
			for _, members := range [][]int{nil, {1}, upTo(c.need), upTo(c.many), upTo(6), reversed(upTo(c.many))} {
				for _, member := range []int{0, 1, c.many} {
					sign := func(given [][]int) []int {
						k := impl.Key{Need: k.Need, Many: k.Many, Good: given[0], Commit: given[1]}
						z, _ := impl.SignPart(k, given[2], impl.Held{Member: member, Share: 5}, 8, 9, 3)
						impl.SignFits(k, given[2], member, 8, 8, 9, z)
						return []int{z}
					}
					checkMemory(t, "SignPart and SignFits", sign, k.Good, k.Commit, members)
				}
			}
		}
	}
}
