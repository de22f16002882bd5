// Package scrub: rules that clean texts, and whether anything bad gets through: see DOC.md.
package scrub

import (
	"scrub/audit"
	"scrub/grammar"
	"scrub/machine"
	"scrub/pattern"
)

// Errno is what a call answers: OK or the reason for a refusal.
type Errno int

const (
	OK       Errno = 0
	ErrLong  Errno = 1 // above a bound
	ErrText  Errno = 2 // no policy, or no expression
	ErrMany  Errno = 3 // too many, or too much
	ErrTwice Errno = 4 // a name that is there already
	ErrName  Errno = 5 // a name that there is not
	ErrRange Errno = 6 // from a higher byte to a lower one
)

// The kinds of verdicts.
const (
	Safe   int = 1
	Unsafe int = 2
	Same   int = 3
	Unlike int = 4
)

// Verdict is what was found.
type Verdict struct {
	Kind    int
	Witness string
}

// Check tells whether a text is a policy (P2).
func Check(policy string) (Errno, int) {
	_, fault := grammar.Read(policy)
	return answer(fault)
}

// Match tells whether an expression has a text (P3).
func Match(expression string, text string) (bool, Errno, int) {
	read, fault := grammar.ReadExpression(expression)
	if fault.Kind != grammar.None {
		errno, place := answer(fault)
		return false, errno, place
	}
	return pattern.New(read).Has(text), OK, 0
}

// Apply puts a text through a chain (P4).
func Apply(policy string, chain string, text string) (string, Errno, int) {
	read, fault := grammar.Read(policy)
	if fault.Kind != grammar.None {
		errno, place := answer(fault)
		return "", errno, place
	}
	number := read.ChainNumber(chain)
	if number < 0 {
		return "", ErrName, 0
	}
	return machine.NewChain(read, read.Chains[number]).Text(text), OK, 0
}

// Audit decides what is asked (P5).
func Audit(policy string) ([]Verdict, Errno, int) {
	read, fault := grammar.Read(policy)
	if fault.Kind != grammar.None {
		errno, place := answer(fault)
		return nil, errno, place
	}
	verdicts := make([]Verdict, 0, len(read.Checks))
	for _, check := range read.Checks {
		verdicts = append(verdicts, verdict(read, check))
	}
	return verdicts, OK, 0
}

func verdict(policy grammar.Policy, check grammar.Check) Verdict {
	good, bad, look := Safe, Unsafe, audit.Never
	if check.Kind == grammar.Same {
		good, bad, look = Same, Unlike, audit.Same
	}
	if witness, found := look(policy, check); found {
		return Verdict{Kind: bad, Witness: witness}
	}
	return Verdict{Kind: good}
}

// answer tells a fault as the calls do: the kinds of faults have the errors' numbers.
func answer(fault grammar.Fault) (Errno, int) {
	return Errno(fault.Kind), fault.Place
}
