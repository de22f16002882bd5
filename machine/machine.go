// Package machine runs scrubs and chains: a byte goes in, bytes come out, and at the end what is left.
package machine

import "scrub/grammar"

// Held is the state of a machine: how many bytes it has taken in that nothing stands for yet.
type Held uint8

// Machine is a scrub. It keeps nothing itself: its state is handed in and out, so that one machine may stand at many states.
type Machine interface {
	// Put takes a byte in, and tells what the machine holds then and what comes out.
	Put(held Held, b byte) (Held, string)
	// End tells what is left where the text ends.
	End(held Held) string
}

// New makes the machine of a scrub that was read without fault.
func New(scrub grammar.Scrub) Machine {
	if scrub.Kind == grammar.Swap {
		return swap{from: scrub.From, to: scrub.To}
	}
	return newRuled(scrub.Rules)
}

func alone(b byte) string {
	return string([]byte{b})
}
