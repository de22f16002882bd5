package audit

import (
	"slices"

	"scrub/grammar"
	"scrub/machine"
	"scrub/search"
)

// pair is where a text leads two chains: the state of the first one, that of the other one, and whether they make two things of the text. How far one's output is ahead of the other's needs no room here: as long as they make the same, it follows from what is left in each.
type pair struct {
	machine.State
	other  machine.State
	parted bool
}

// Same looks for a shortest text of which the check's two chains do not make the same.
func Same(policy grammar.Policy, check grammar.Check) (string, bool) {
	return same(policy, check, sameLetters(policy, check))
}

func sameLetters(policy grammar.Policy, check grammar.Check) []byte {
	scrubs := scrubsOf(policy, check.Chains)
	return letters(inCases(scrubs, slices.Concat(scrubMarks(scrubs), textMarks(scrubs))))
}

func same(policy grammar.Policy, check grammar.Check, letters []byte) (string, bool) {
	one, two := newRunner(policy, check.Chains[0]), newRunner(policy, check.Chains[1])
	next := func(now pair, letter byte) (pair, bool) {
		made, other := one.put(now.State, letter), two.put(now.other, letter)
		ahead, otherAhead := leads(one.end(now.State), two.end(now.other))
		parted := ahead+made.out+one.end(made.State) != otherAhead+other.out+two.end(other.State)
		return pair{made.State, other.State, parted}, true
	}
	parted := func(now pair) bool { return now.parted }
	return search.Shortest(pair{}, letters, next, parted)
}

// leads tells what has come out of each of two chains and not yet of the other one, if they make the same once what is left in each has come out, too.
func leads(left, otherLeft string) (string, string) {
	if len(left) < len(otherLeft) {
		return otherLeft[:len(otherLeft)-len(left)], ""
	}
	return "", left[:len(left)-len(otherLeft)]
}
