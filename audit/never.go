package audit

import (
	"slices"

	"scrub/grammar"
	"scrub/machine"
	"scrub/pattern"
	"scrub/search"
)

// point is where a text leads: the state of the chain, and the spot to which what came out leads.
type point struct {
	machine.State
	spot pattern.Spot
}

// Never looks for a shortest text of which the check's chain makes one that its expression has.
func Never(policy grammar.Policy, check grammar.Check) (string, bool) {
	return never(policy, check, neverLetters(policy, check))
}

func neverLetters(policy grammar.Policy, check grammar.Check) []byte {
	scrubs := scrubsOf(policy, check.Chains)
	marks := slices.Concat(scrubMarks(scrubs), pattern.New(check.Expression).Marks())
	return letters(inCases(scrubs, marks))
}

func never(policy grammar.Policy, check grammar.Check, letters []byte) (string, bool) {
	run := newRunner(policy, check.Chains[0])
	walk := pattern.NewWalk(pattern.New(check.Expression))
	next := func(now point, letter byte) (point, bool) {
		made := run.put(now.State, letter)
		spot := walk.Through(now.spot, made.out)
		return point{made.State, spot}, !walk.Lost(spot)
	}
	bad := func(now point) bool {
		return walk.Ends(walk.Through(now.spot, run.end(now.State)))
	}
	return search.Shortest(point{}, letters, next, bad)
}
