// Package grammar reads policies and expressions, and tells what is wrong with a text that is none.
package grammar

import "scrub/sets"

// The limits that DOC.md names.
const (
	MaxPolicy = 400
	MaxName   = 8
	MaxScrubs = 6
	MaxRules  = 6
	MaxParts  = 3
	MaxWord   = 4
	MaxChain  = 3
	MaxChains = 4
	MaxChecks = 6
	MaxBases  = 12
	MaxNest   = 4
)

// Policy is what a policy's text says, each kind of thing in the text's order.
type Policy struct {
	Scrubs []Scrub
	Chains []Chain
	Checks []Check
}

// ScrubKind tells the two kinds of scrubs apart.
type ScrubKind int

const (
	Ruled ScrubKind = iota
	Swap
)

// Scrub is a scrub: Rules are those of a ruled one, From and To the texts of a swap.
type Scrub struct {
	Name  string
	Kind  ScrubKind
	Rules []Rule
	From  string
	To    string
}

// Rule tells what stands for the bytes of a class: its parts one behind the other, or nothing.
type Rule struct {
	Class sets.Set[byte]
	Parts []Part
}

// PartKind tells the kinds of parts apart.
type PartKind int

const (
	PartText PartKind = iota
	PartByte
	PartUpper
	PartLower
)

// Part is a part of an output; only a PartText has a text.
type Part struct {
	Kind PartKind
	Text string
}

// Chain is a chain: its scrubs, by their numbers in the policy.
type Chain struct {
	Name   string
	Scrubs []int
}

// CheckKind tells the two kinds of checks apart.
type CheckKind int

const (
	Never CheckKind = iota
	Same
)

// Check is a check: its chains, by their numbers in the policy (of Never one, of Same two), and what Never forbids.
type Check struct {
	Kind       CheckKind
	Chains     []int
	Expression Expression
}

// Expression is its rows, of which either may be met.
type Expression []Row

// Row is its bases, one behind the other.
type Row []Base

// BaseKind tells the kinds of bases apart.
type BaseKind int

const (
	BaseLetter BaseKind = iota
	BaseAny
	BaseClass
	BaseGroup
)

// Repeat tells how often a base stands.
type Repeat int

const (
	Once Repeat = iota
	AnyTimes
	AtLeastOnce
	AtMostOnce
)

// Base is a base with its repeat. Letter, Class and Group belong to the kinds of these names.
type Base struct {
	Kind   BaseKind
	Letter byte
	Class  sets.Set[byte]
	Group  Expression
	Repeat Repeat
}
