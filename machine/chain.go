package machine

import (
	"strings"

	"scrub/grammar"
)

// State is the state of a chain: what each of its machines holds. At the beginning none holds anything: that is the zero state.
type State struct {
	held [grammar.MaxChain]Held
}

// Chain is machines one behind the other. What comes out of the last one is written to out as soon as it comes, so that no text between two machines is ever kept.
type Chain struct {
	// Put takes a byte in.
	Put func(state *State, b byte, out *strings.Builder)
	// End lets out what is left.
	End func(state *State, out *strings.Builder)
}

// NewChain makes a chain of a policy that was read without fault.
func NewChain(policy grammar.Policy, chain grammar.Chain) Chain {
	whole := writer()
	for number := len(chain.Scrubs) - 1; number >= 0; number-- {
		whole = ahead(New(policy.Scrubs[chain.Scrubs[number]]), number, whole)
	}
	return whole
}

// writer is the chain of no machines.
func writer() Chain {
	return Chain{
		Put: func(state *State, b byte, out *strings.Builder) { out.WriteByte(b) },
		End: func(state *State, out *strings.Builder) {},
	}
}

// ahead puts a machine, which has this number in the state, ahead of a chain.
func ahead(m Machine, number int, rest Chain) Chain {
	pass := func(state *State, text string, out *strings.Builder) {
		for i := range len(text) {
			rest.Put(state, text[i], out)
		}
	}
	return Chain{
		Put: func(state *State, b byte, out *strings.Builder) {
			held, text := m.Put(state.held[number], b)
			state.held[number] = held
			pass(state, text, out)
		},
		End: func(state *State, out *strings.Builder) {
			pass(state, m.End(state.held[number]), out)
			rest.End(state, out)
		},
	}
}

// Text tells what the chain makes of a text.
func (c Chain) Text(text string) string {
	var state State
	var out strings.Builder
	for i := range len(text) {
		c.Put(&state, text[i], &out)
	}
	c.End(&state, &out)
	return out.String()
}
