// Package audit decides, for all texts there are, what comes out of chains.
package audit

import (
	"strings"

	"scrub/grammar"
	"scrub/machine"
)

// ask is a letter that comes to a chain in some state.
type ask struct {
	machine.State
	letter byte
}

// made is what a chain makes of it: its state then, and what comes out.
type made struct {
	machine.State
	out string
}

// runner is a chain that works out each step once, as a search comes to the same states over and over.
type runner struct {
	chain machine.Chain
	steps map[ask]made
	ends  map[machine.State]made
}

func newRunner(policy grammar.Policy, chain int) *runner {
	return &runner{
		chain: machine.NewChain(policy, policy.Chains[chain]),
		steps: make(map[ask]made),
		ends:  make(map[machine.State]made),
	}
}

func (r *runner) put(state machine.State, letter byte) made {
	asked := ask{state, letter}
	if known, ok := r.steps[asked]; ok {
		return known
	}
	var out strings.Builder
	r.chain.Put(&state, letter, &out)
	r.steps[asked] = made{state, out.String()}
	return r.steps[asked]
}

// end tells what comes out if the text ends at a state.
func (r *runner) end(state machine.State) string {
	if known, ok := r.ends[state]; ok {
		return known.out
	}
	ended := state
	var out strings.Builder
	r.chain.End(&ended, &out)
	r.ends[state] = made{ended, out.String()}
	return out.String()
}
