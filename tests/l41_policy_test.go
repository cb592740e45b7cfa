package tests

import (
	"math"
	"slices"
	"strings"
	"sync"
	"testing"

	"loop.example/wardstaff/impl"
)

func threeRoles() []string {
	return []string{"a", "b", "c"}
}

// roleLists lists the roles of up to as many people, in every way.
func roleLists(most int) [][]string {
	var list [][]string
	for people := range most + 1 {
		for _, tuple := range tuples([]int{0, 1, 2}, people) {
			roles := make([]string, people)
			for i, n := range tuple {
				roles[i] = threeRoles()[n]
			}
			list = append(list, roles)
		}
	}
	return list
}

// rolesIn splits a word into the roles of people.
func rolesIn(word string) []string {
	var list []string
	for i := range len(word) {
		list = append(list, word[i:i+1])
	}
	return list
}

// fewRoleLists lists roles in which some, all and none are of each role.
func fewRoleLists() [][]string {
	var list [][]string
	for _, word := range []string{"", "a", "b", "ab", "cc", "aab", "abc", "cbaa", "abcab", "aaaaaa", "bbbbbb", "aaabbc", "cbacba", "ccccca"} {
		list = append(list, rolesIn(word))
	}
	return list
}

// noRoles lists words that are no roles.
func noRoles() []string {
	return []string{
		"", "d", "A", "B", "C", "`", "1", "z", "aa", "ab", "abc", "bc", "ba", "cc", "a ", " a", "b\n", "a\x00", "\x00", "\x00a", "b.", "c,a", "á", "а", "ａ",
		"\xe1", "\xff", "a\xff", "owner", "role a", strings.Repeat("a", 1000),
	}
}

// outsideRoleLists lists roles with one unknown at every place, and those of too many people.
func outsideRoleLists() [][]string {
	var list [][]string
	for _, word := range []string{"a", "bc", "abc", "aaaa", "cbabc", "aabbcc"} {
		for _, unknown := range noRoles() {
			for i := range len(word) {
				roles := rolesIn(word)
				roles[i] = unknown
				list = append(list, roles)
			}
		}
	}
	for _, word := range []string{"aaaaaaa", "abcabca", "ccccccccccccc", strings.Repeat("b", 300)} {
		list = append(list, rolesIn(word))
	}
	return append(list, append(rolesIn("abcabc"), ""), make([]string, 6), make([]string, 7))
}

// noPeople lists numbers that nobody has among so many people.
func noPeople(people int) []int {
	list := []int{0, -1, -2, -6, -7, people + 1, people + 2, people + 6, 7, 8, 100, 256, 257, -256, -255, math.MinInt32, math.MaxInt32, 1 << 32, 1<<32 + 1}
	return append(list, math.MinInt, math.MinInt+1, math.MinInt+2, math.MaxInt-1, math.MaxInt)
}

// approverLists lists up to so many approvers among six people and some who are nobody, in every order and with every repetition.
func approverLists(longest int) [][]int {
	var list [][]int
	for length := range longest + 1 {
		list = append(list, tuples([]int{0, 1, 2, 3, 4, 5, 6, 7}, length)...)
	}
	return list
}

// approverSets lists every set of six people, in ascending and descending order.
func approverSets() [][]int {
	var list [][]int
	for set := range 1 << 6 {
		var who []int
		for person := 1; person <= 6; person++ {
			if set>>(person-1)&1 == 1 {
				who = append(who, person)
			}
		}
		list = append(list, who, reversed(who))
	}
	return list
}

// approving counts the different people with the role, made without the program.
func approving(roles []string, who []int, role string) int {
	different := map[int]bool{}
	for _, person := range who {
		if person >= 1 && person <= len(roles) && roles[person-1] == role {
			different[person] = true
		}
	}
	return len(different)
}

// permitted is up to which amount a valid policy permits, or -1, made without the program.
func permitted(roles []string, rules []impl.Rule, who []int) int {
	amounts := []int{-1}
	for _, rule := range rules {
		if approving(roles, who, rule.Role) >= rule.Many {
			amounts = append(amounts, rule.Most)
		}
	}
	return slices.Max(amounts)
}

// someRules lists rules of every role, at and between the limits of Many and Most.
func someRules() []impl.Rule {
	return []impl.Rule{
		{Role: "a", Many: 1, Most: 10}, {Role: "a", Many: 2, Most: 50}, {Role: "a", Many: 6, Most: 99}, {Role: "a", Many: 3, Most: 5},
		{Role: "b", Many: 1, Most: 0}, {Role: "b", Many: 2, Most: 98}, {Role: "b", Many: 6, Most: 0},
		{Role: "c", Many: 1, Most: 99}, {Role: "c", Many: 4, Most: 11},
	}
}

// ruleLists lists no rule, and up to so many of someRules in every order and with every repetition.
func ruleLists(longest int) [][]impl.Rule {
	rules := someRules()
	var list [][]impl.Rule
	for length := range longest + 1 {
		for _, tuple := range tuples(numbersFrom(0, len(rules)), length) {
			chosen := make([]impl.Rule, length)
			for i, n := range tuple {
				chosen[i] = rules[n]
			}
			list = append(list, chosen)
		}
	}
	return list
}

// fourRules lists lists of as many rules as there can be, and of one less.
func fourRules() [][]impl.Rule {
	r := someRules()
	return [][]impl.Rule{
		{r[0], r[1], r[2], r[3]}, {r[3], r[4], r[5], r[7]}, {r[6], r[6], r[6], r[6]}, {r[8], r[7], r[0], r[2]},
		{r[1], r[5], r[8]}, {r[2], r[6], r[0]}, {r[4], r[4], r[1]},
	}
}

// fewRuleLists lists rules for the tests that try many roles and approvers with each.
func fewRuleLists() [][]impl.Rule {
	return append(ruleLists(1), append(fourRules(), []impl.Rule{someRules()[0], someRules()[1]}, []impl.Rule{someRules()[7], someRules()[4]})...)
}

// noRules lists rules that are not valid, by one part each and by all.
func noRules() []impl.Rule {
	var list []impl.Rule
	for _, unknown := range noRoles() {
		list = append(list, impl.Rule{Role: unknown, Many: 1, Most: 99})
	}
	for _, many := range []int{0, -1, -6, 7, 8, 100, 257, math.MinInt, math.MinInt + 1, math.MaxInt - 1, math.MaxInt, math.MinInt32, math.MaxInt32, 1<<32 + 1} {
		list = append(list, impl.Rule{Role: "a", Many: many, Most: 99}, impl.Rule{Role: "c", Many: many, Most: 0})
	}
	for _, most := range outsideAmounts() {
		list = append(list, impl.Rule{Role: "a", Many: 1, Most: most}, impl.Rule{Role: "b", Many: 6, Most: most}, impl.Rule{Role: "x", Many: most, Most: most})
	}
	return append(list, impl.Rule{})
}

func outsideAmounts() []int {
	return []int{-1, -2, -99, -100, 100, 101, 199, 256, 355, math.MinInt, math.MinInt + 1, math.MaxInt - 1, math.MaxInt, math.MinInt32, math.MaxInt32, 1 << 32, 1<<32 + 5}
}

// amountsAround lists the edges of all amounts and of what the rules permit.
func amountsAround(rules []impl.Rule) []int {
	list := []int{0, 1, 49, 98, 99}
	for _, rule := range rules {
		list = append(list, max(rule.Most-1, 0), rule.Most, min(rule.Most+1, 99))
	}
	return list
}

// policy is what people of some roles may do by some rules.
type policy struct {
	roles []string
	rules []impl.Rule
}

// policies lists valid policies.
func policies() []policy {
	var list []policy
	for _, roles := range fewRoleLists() {
		for _, rules := range fewRuleLists() {
			list = append(list, policy{roles, rules})
		}
	}
	return list
}

// outsidePolicies lists policies that are not valid by their roles, by one of their rules, or by the number of either.
func outsidePolicies() []policy {
	var list []policy
	for _, roles := range outsideRoleLists() {
		list = append(list, policy{roles, nil}, policy{roles, []impl.Rule{{Role: "a", Many: 1, Most: 99}, {Role: "b", Many: 1, Most: 99}}})
	}
	for _, wrong := range noRules() {
		for _, rules := range fourRules() {
			for i := range rules {
				changed := slices.Clone(rules)
				changed[i] = wrong
				list = append(list, policy{rolesIn("aaabbc"), changed})
			}
		}
		list = append(list, policy{rolesIn("abc"), []impl.Rule{wrong}}, policy{nil, []impl.Rule{wrong}})
	}
	for _, rule := range someRules() {
		for _, many := range []int{5, 6, 8, 100} {
			list = append(list, policy{rolesIn("aaabbc"), slices.Repeat([]impl.Rule{rule}, many)}, policy{nil, slices.Repeat([]impl.Rule{rule}, many)})
		}
	}
	list = append(list, policy{rolesIn("aaabbc"), make([]impl.Rule, 5)}, policy{make([]string, 7), make([]impl.Rule, 5)})
	return list
}

func checkPolicyOk(t *testing.T, p policy, want bool) {
	t.Helper()
	if impl.PolicyOk(p.roles, p.rules) != want {
		t.Errorf("PolicyOk(%q, %v) is not %v", p.roles, p.rules, want)
	}
}

func checkRole(t *testing.T, roles []string, who int, want string) {
	t.Helper()
	if role := impl.PolicyRole(roles, who); role != want {
		t.Errorf("PolicyRole(%q, %d) is %q, not %q", roles, who, role, want)
	}
}

func checkMany(t *testing.T, roles []string, who []int, role string, want int) {
	t.Helper()
	if many := impl.PolicyMany(roles, who, role); many != want {
		t.Errorf("PolicyMany(%q, %v, %q) is %d, not %d", roles, who, role, many, want)
	}
}

func checkMost(t *testing.T, p policy, who []int, want int) {
	t.Helper()
	if most := impl.PolicyMost(p.roles, p.rules, who); most != want {
		t.Errorf("PolicyMost(%q, %v, %v) is %d, not %d", p.roles, p.rules, who, most, want)
	}
}

func checkMay(t *testing.T, p policy, who []int, amount int, want bool) {
	t.Helper()
	if impl.PolicyMay(p.roles, p.rules, who, amount) != want {
		t.Errorf("PolicyMay(%q, %v, %v, %d) is not %v", p.roles, p.rules, who, amount, want)
	}
}

// P123: the roles of up to six people, in every way.
func TestPolicyRoleIsTheRoleOfThePerson(t *testing.T) {
	for _, roles := range roleLists(6) {
		for i, role := range roles {
			checkRole(t, roles, i+1, role)
		}
	}
}

// P123: where there is no such person.
func TestPolicyRoleOfNobodyIsEmpty(t *testing.T) {
	for _, roles := range roleLists(6) {
		for _, who := range noPeople(len(roles)) {
			checkRole(t, roles, who, "")
		}
	}
	checkRole(t, nil, 1, "")
	checkRole(t, []string{}, 1, "")
}

// Sections of PolicyRole and PolicyMany: one unknown role, or one person too many, leaves no one a role.
func TestRolesThatAreNotValidGiveNothing(t *testing.T) {
	for _, roles := range outsideRoleLists() {
		for _, who := range append([]int{1, 2, 3, 4, 5, 6}, noPeople(len(roles))...) {
			checkRole(t, roles, who, "")
		}
		for _, role := range append(threeRoles(), roles[0], roles[len(roles)-1], "") {
			checkMany(t, roles, []int{1, 2, 3, 4, 5, 6, 7}, role, 0)
			checkMany(t, roles, nil, role, 0)
		}
	}
}

// P124: the roles of up to six people in every way, with up to two approvers in every way and every set of approvers.
func TestPolicyManyCountsDifferentPeople(t *testing.T) {
	lists := append(approverLists(2), approverSets()...)
	for _, roles := range roleLists(6) {
		for _, who := range lists {
			for _, role := range threeRoles() {
				checkMany(t, roles, who, role, approving(roles, who, role))
			}
		}
	}
}

// P124: more approvers, and so more repetitions.
func TestPolicyManyCountsNobodyTwice(t *testing.T) {
	for _, roles := range fewRoleLists() {
		for _, who := range approverLists(4) {
			for _, role := range threeRoles() {
				checkMany(t, roles, who, role, approving(roles, who, role))
			}
		}
	}
}

// P124: repetitions in all kinds of orders.
func TestRepetitionsDoNotMatter(t *testing.T) {
	for _, roles := range fewRoleLists() {
		for _, who := range approverSets() {
			for _, role := range threeRoles() {
				many := approving(roles, who, role)
				checkMany(t, roles, slices.Repeat(who, 2), role, many)
				checkMany(t, roles, slices.Repeat(who, 100), role, many)
				checkMany(t, roles, slices.Concat(who, reversed(who), who), role, many)
				if len(who) > 0 {
					checkMany(t, roles, append(slices.Clone(who), who[0]), role, many)
					checkMany(t, roles, append(slices.Repeat(who[:1], 7), who...), role, many)
				}
			}
		}
	}
}

// P124: approvers who are nobody, alone and among others.
func TestApproversWhoAreNobodyDoNotCount(t *testing.T) {
	for _, roles := range fewRoleLists() {
		nobody := noPeople(len(roles))
		for _, role := range threeRoles() {
			checkMany(t, roles, nobody, role, 0)
			for _, who := range approverSets() {
				many := approving(roles, who, role)
				checkMany(t, roles, slices.Concat(nobody, who), role, many)
				checkMany(t, roles, slices.Concat(who, nobody), role, many)
			}
		}
	}
}

// Section of PolicyMany: a word that is no role, although it begins with one or is empty.
func TestPolicyManyOfNoRoleIs0(t *testing.T) {
	for _, roles := range fewRoleLists() {
		for _, role := range noRoles() {
			checkMany(t, roles, []int{1, 2, 3, 4, 5, 6}, role, 0)
			checkMany(t, roles, nil, role, 0)
		}
	}
}

// P130: every way to give the roles.
func TestPolicyManyOfAllRolesAddsUp(t *testing.T) {
	lists := append(approverLists(1), approverSets()...)
	for _, roles := range roleLists(6) {
		for _, who := range append(lists, []int{7, 6, 6, 1, 0, 1, 2, -1}) {
			different := map[int]bool{}
			for _, person := range who {
				if impl.PolicyRole(roles, person) != "" {
					different[person] = true
				}
			}
			sum := 0
			for _, role := range threeRoles() {
				sum += impl.PolicyMany(roles, who, role)
			}
			if sum != len(different) {
				t.Errorf("PolicyMany(%q, %v) adds up to %d, not %d", roles, who, sum, len(different))
			}
		}
	}
}

// P129: all roles with some rules, and all limits of a rule with some roles.
func TestPolicyOkIsTrueInTheLimits(t *testing.T) {
	for _, roles := range roleLists(6) {
		checkPolicyOk(t, policy{roles, nil}, true)
		checkPolicyOk(t, policy{roles, fourRules()[0]}, true)
	}
	for _, rules := range append(ruleLists(3), fourRules()...) {
		checkPolicyOk(t, policy{nil, rules}, true)
		checkPolicyOk(t, policy{rolesIn("aaabbc"), rules}, true)
	}
	for _, rule := range someRules() {
		checkPolicyOk(t, policy{rolesIn("ab"), slices.Repeat([]impl.Rule{rule}, 4)}, true)
	}
	for _, role := range threeRoles() {
		for many := -3; many <= 9; many++ {
			for most := -3; most <= 103; most++ {
				valid := many >= 1 && many <= 6 && most >= 0 && most <= 99
				checkPolicyOk(t, policy{rolesIn("cba"), []impl.Rule{{Role: role, Many: many, Most: most}}}, valid)
			}
		}
	}
}

// P129, and the sections of PolicyMost and PolicyMay: policies that are not valid permit nothing, whatever else there is.
func TestPoliciesThatAreNotValidPermitNothing(t *testing.T) {
	for _, p := range outsidePolicies() {
		checkPolicyOk(t, p, false)
		for _, who := range [][]int{nil, {1}, {2, 1}, {1, 2, 3, 4, 5, 6}, {1, 1, 2, 2, 3, 3, 7, 0}} {
			checkMost(t, p, who, -1)
			for _, amount := range []int{-1, 0, 1, 10, 99, 100, math.MinInt, math.MaxInt} {
				checkMay(t, p, who, amount, false)
			}
		}
	}
}

// P129: every policy, without each of its rules and without its last person.
func TestAValidPolicyStaysValidWithoutARule(t *testing.T) {
	for _, p := range policies() {
		checkPolicyOk(t, p, true)
		for i := range p.rules {
			checkPolicyOk(t, policy{p.roles, slices.Delete(slices.Clone(p.rules), i, i+1)}, true)
		}
	}
}

// P129: every policy, with an unknown role in the place of each, and with too many people.
func TestAPolicyWithAnUnknownRoleOrTooManyPeopleIsNotValid(t *testing.T) {
	for _, p := range policies() {
		for i := range p.roles {
			for _, unknown := range noRoles() {
				roles := slices.Clone(p.roles)
				roles[i] = unknown
				checkPolicyOk(t, policy{roles, p.rules}, false)
			}
		}
		for i := range p.rules {
			for _, unknown := range noRoles() {
				rules := slices.Clone(p.rules)
				rules[i].Role = unknown
				checkPolicyOk(t, policy{p.roles, rules}, false)
			}
		}
		for people := len(p.roles); people <= 8; people++ {
			roles := append(slices.Clone(p.roles), slices.Repeat([]string{"a"}, people-len(p.roles))...)
			checkPolicyOk(t, policy{roles, p.rules}, people <= 6)
		}
	}
}

// P127 and P131: every role list of up to four people and every set of approvers.
func TestPolicyMostIsTheGreatestOfTheSatisfiedRules(t *testing.T) {
	for _, roles := range append(roleLists(4), fewRoleLists()...) {
		for _, rules := range fewRuleLists() {
			p := policy{roles, rules}
			for _, who := range approverSets() {
				checkMost(t, p, who, permitted(roles, rules, who))
			}
		}
	}
}

// P127 and P131: every two rules, with approvers some of whom are nobody and some of whom are there twice.
func TestPolicyMostOfEveryTwoRules(t *testing.T) {
	for _, roles := range fewRoleLists() {
		for _, rules := range ruleLists(2) {
			p := policy{roles, rules}
			for _, who := range append(approverLists(1), []int{1, 1}, []int{2, 1, 2}, []int{6, 5, 4, 3, 2, 1}, []int{1, 1, 1, 1, 1, 1}, []int{3, 3, 7, 4}, []int{0, 5, 6, -1}) {
				checkMost(t, p, who, permitted(roles, rules, who))
			}
		}
	}
}

// P125: every policy and set of approvers, at the edges of what its rules permit.
func TestPolicyMayIsTrueIfASatisfiedRulePermitsTheAmount(t *testing.T) {
	for _, p := range policies() {
		for _, who := range approverSets() {
			for _, amount := range amountsAround(p.rules) {
				want := slices.ContainsFunc(p.rules, func(rule impl.Rule) bool {
					return approving(p.roles, who, rule.Role) >= rule.Many && amount <= rule.Most
				})
				checkMay(t, p, who, amount, want)
			}
		}
	}
}

// P125: amounts that are not valid.
func TestPolicyMayIsFalseForNoAmount(t *testing.T) {
	for _, p := range policies() {
		for _, who := range [][]int{nil, {1}, {1, 2, 3, 4, 5, 6}} {
			for _, amount := range outsideAmounts() {
				checkMay(t, p, who, amount, false)
			}
		}
	}
}

// P127: every amount.
func TestPolicyMayHoldsUpToExactlyPolicyMost(t *testing.T) {
	for _, p := range policies() {
		for _, who := range [][]int{nil, {1}, {2}, {1, 1}, {1, 2}, {3, 5}, {2, 3, 4}, {5, 6, 4, 3}, {1, 2, 3, 4, 5, 6}, {0, 7}} {
			most := impl.PolicyMost(p.roles, p.rules, who)
			for amount := -2; amount <= 102; amount++ {
				checkMay(t, p, who, amount, amount >= 0 && amount <= most)
			}
		}
	}
}

// P126: one more approver, before and behind the others, who approves already or not or is nobody, and each smaller amount.
func TestPolicyMayHoldsWithOneMoreApproverAndForLess(t *testing.T) {
	for _, p := range policies() {
		for _, who := range [][]int{nil, {1}, {2}, {1, 2}, {3, 5}, {2, 3, 4}, {1, 2, 3, 4, 5, 6}} {
			for _, amount := range amountsAround(p.rules) {
				if !impl.PolicyMay(p.roles, p.rules, who, amount) {
					continue
				}
				for more := -1; more <= 8; more++ {
					checkMay(t, p, append(slices.Clone(who), more), amount, true)
					checkMay(t, p, append([]int{more}, who...), amount, true)
				}
				for less := range amount {
					checkMay(t, p, who, less, true)
				}
			}
		}
	}
}

// P128: nobody, and no rules.
func TestNobodyAndNoRulesPermitNothing(t *testing.T) {
	for _, p := range policies() {
		for _, who := range [][]int{nil, {}, {0}, noPeople(len(p.roles))} {
			checkMost(t, p, who, -1)
			for amount := -1; amount <= 100; amount++ {
				checkMay(t, p, who, amount, false)
			}
		}
	}
	for _, roles := range roleLists(6) {
		for _, who := range approverLists(1) {
			checkMost(t, policy{roles, nil}, who, -1)
			checkMay(t, policy{roles, []impl.Rule{}}, who, 0, false)
		}
		checkMost(t, policy{roles, nil}, []int{1, 2, 3, 4, 5, 6}, -1)
	}
}

// P131: a rule added at the end, for all policies that have room for one.
func TestAddingARuleDoesNotDecreasePolicyMost(t *testing.T) {
	for _, p := range policies() {
		for _, rule := range someRules() {
			more := policy{p.roles, append(slices.Clone(p.rules), rule)}
			for _, who := range [][]int{nil, {1}, {1, 2}, {3, 5}, {2, 3, 4}, {1, 2, 3, 4, 5, 6}, {1, 1, 7}} {
				if len(more.rules) > 4 {
					checkMost(t, more, who, -1)
					continue
				}
				before := impl.PolicyMost(p.roles, p.rules, who)
				alone := impl.PolicyMost(p.roles, []impl.Rule{rule}, who)
				checkMost(t, more, who, max(before, alone))
			}
		}
	}
}

// P131, in its own words.
func TestPolicyMostIsTheMaximumOverTheSingleRules(t *testing.T) {
	for _, p := range policies() {
		for _, who := range approverSets() {
			most := -1
			for _, rule := range p.rules {
				most = max(most, impl.PolicyMost(p.roles, []impl.Rule{rule}, who))
			}
			checkMost(t, p, who, most)
		}
	}
}

// P132: four rules and three approvers in every order.
func TestTheOrderOfRulesAndApproversDoesNotMatter(t *testing.T) {
	for _, roles := range fewRoleLists() {
		for _, rules := range fourRules() {
			for _, who := range [][]int{{1}, {1, 2}, {1, 2, 3}, {2, 4, 6}, {1, 5, 6}, {3, 4, 9}} {
				most := permitted(roles, rules, who)
				for _, order := range arrangements(numbersFrom(0, len(rules)), len(rules)) {
					ordered := make([]impl.Rule, len(rules))
					for i, n := range order {
						ordered[i] = rules[n]
					}
					for _, approvers := range arrangements(who, len(who)) {
						checkMost(t, policy{roles, ordered}, approvers, most)
					}
				}
			}
		}
	}
}

// P125 and P127: each Many with exactly as many approvers, one more and one fewer, at the least and the greatest Most and between.
func TestARuleNeedsExactlyManyApprovers(t *testing.T) {
	for _, role := range threeRoles() {
		roles := slices.Repeat([]string{role}, 6)
		for many := 1; many <= 6; many++ {
			for _, most := range []int{0, 1, 50, 98, 99} {
				p := policy{roles, []impl.Rule{{Role: role, Many: many, Most: most}}}
				for _, who := range approverSets() {
					enough := len(who) >= many
					if enough {
						checkMost(t, p, who, most)
					} else {
						checkMost(t, p, who, -1)
						checkMost(t, p, slices.Repeat(who, 6), -1)
					}
					checkMay(t, p, who, 0, enough)
					checkMay(t, p, who, most, enough)
					checkMay(t, p, who, most+1, false)
				}
			}
		}
	}
}

// P123 to P132, as values.
func TestPoliciesAtNamedValues(t *testing.T) {
	p := policy{rolesIn("aabcab"), []impl.Rule{{Role: "a", Many: 2, Most: 50}, {Role: "b", Many: 1, Most: 20}, {Role: "a", Many: 3, Most: 99}, {Role: "c", Many: 6, Most: 60}}}
	checkPolicyOk(t, p, true)
	for i, role := range []string{"", "a", "a", "b", "c", "a", "b", ""} {
		checkRole(t, p.roles, i, role)
	}
	checkMany(t, p.roles, []int{1, 2, 9}, "a", 2)
	checkMany(t, p.roles, []int{1, 1, 1}, "a", 1)
	checkMany(t, p.roles, []int{6, 5, 4, 3, 2, 1}, "a", 3)
	checkMany(t, p.roles, []int{6, 5, 4, 3, 2, 1}, "b", 2)
	checkMany(t, p.roles, []int{6, 5, 4, 3, 2, 1}, "c", 1)
	checkMany(t, p.roles, []int{6, 5, 4, 3, 2, 1}, "ab", 0)
	for _, c := range []struct {
		who  []int
		most int
	}{
		{nil, -1}, {[]int{1}, -1}, {[]int{1, 1}, -1}, {[]int{2, 1}, 50}, {[]int{1, 2, 1}, 50}, {[]int{3}, 20}, {[]int{3, 3}, 20},
		{[]int{1, 3}, 20}, {[]int{1, 2, 3}, 50}, {[]int{5, 2, 1}, 99}, {[]int{4}, -1}, {[]int{4, 4, 4, 4, 4, 4}, -1}, {[]int{0, 7, -1}, -1}, {[]int{1, 7}, -1},
		{[]int{1, 2, 3, 4, 5, 6}, 99},
	} {
		checkMost(t, p, c.who, c.most)
		checkMay(t, p, c.who, c.most, c.most >= 0)
		checkMay(t, p, c.who, c.most+1, false)
		checkMay(t, p, c.who, 0, c.most >= 0)
		checkMay(t, p, c.who, -1, false)
		checkMay(t, p, c.who, 99, c.most == 99)
		checkMay(t, p, c.who, 100, false)
	}
	zero := policy{rolesIn("b"), []impl.Rule{{Role: "b", Many: 1, Most: 0}}}
	checkMost(t, zero, []int{1}, 0)
	checkMay(t, zero, []int{1}, 0, true)
	checkMay(t, zero, []int{1}, 1, false)
}

// withRoomFor returns a copy of the list with spare capacity that holds the other elements, and the whole array below it.
func withRoomFor[T any](list []T, behind ...T) (copied, whole []T) {
	whole = append(slices.Clone(list), behind...)
	return whole[:len(list)], whole
}

// General rules: arguments stay as they are, what is behind the end included.
func TestPoliciesChangeNoArgument(t *testing.T) {
	for _, p := range append(policies(), outsidePolicies()...) {
		for _, who := range [][]int{nil, {1}, {6, 1, 6, 1}, {5, 4, 3, 2, 1, 0, 7}} {
			roles, allRoles := withRoomFor(p.roles, "b", "x")
			rules, allRules := withRoomFor(p.rules, impl.Rule{Role: "c", Many: 1, Most: 7}, impl.Rule{Role: "x", Many: -1, Most: -1})
			approvers, allApprovers := withRoomFor(who, 2, 92)
			rolesBefore, rulesBefore, approversBefore := slices.Clone(allRoles), slices.Clone(allRules), slices.Clone(allApprovers)
			impl.PolicyOk(roles, rules)
			impl.PolicyRole(roles, 1)
			impl.PolicyMany(roles, approvers, "a")
			impl.PolicyMay(roles, rules, approvers, 10)
			impl.PolicyMost(roles, rules, approvers)
			if !slices.Equal(allRoles, rolesBefore) || !slices.Equal(allRules, rulesBefore) || !slices.Equal(allApprovers, approversBefore) {
				t.Errorf("%q, %v, %v became %q, %v, %v", rolesBefore, rulesBefore, approversBefore, allRoles, allRules, allApprovers)
			}
		}
	}
}

// General rules: nothing is kept from one call to the next, also when calls run at the same time.
func TestPoliciesKeepNoState(t *testing.T) {
	p := policy{rolesIn("aab"), []impl.Rule{{Role: "a", Many: 2, Most: 50}, {Role: "b", Many: 1, Most: 20}}}
	wrong := policy{rolesIn("aax"), p.rules}
	var callers sync.WaitGroup
	for range 8 {
		callers.Go(func() {
			for range 50 {
				checkMost(t, p, []int{1, 2}, 50)
				checkMost(t, wrong, []int{1, 2}, -1)
				checkMost(t, p, []int{2}, -1)
				checkMay(t, p, []int{3}, 20, true)
				checkMay(t, p, nil, 0, false)
				checkMany(t, p.roles, []int{1}, "a", 1)
				checkMany(t, p.roles, []int{2}, "a", 1)
				checkRole(t, wrong.roles, 1, "")
				checkRole(t, p.roles, 1, "a")
				checkPolicyOk(t, wrong, false)
				checkPolicyOk(t, p, true)
			}
		})
	}
	callers.Wait()
}

// General rules: the limits are as in the table of constants.
func TestTheLimitsOfPolicies(t *testing.T) {
	if impl.PeopleMax != 6 || impl.RuleMax != 4 || impl.AmountMax != 99 {
		t.Errorf("PeopleMax is %d, RuleMax is %d, and AmountMax is %d", impl.PeopleMax, impl.RuleMax, impl.AmountMax)
	}
}
