package machine

import (
	"strings"
	"testing"

	"scrub/grammar"
	"scrub/sets"
)

type step struct {
	held Held
	b    byte
	then Held
	out  string
}

func runSteps(t *testing.T, m Machine, steps []step) {
	t.Helper()
	for _, s := range steps {
		if then, out := m.Put(s.held, s.b); then != s.then || out != s.out {
			t.Errorf("P4: Put(%d, %q) = %d, %q, want %d, %q", s.held, s.b, then, out, s.then, s.out)
		}
	}
}

func newSwap(from, to string) Machine {
	return New(grammar.Scrub{Kind: grammar.Swap, From: from, To: to})
}

func TestSwapSteps(t *testing.T) {
	runSteps(t, newSwap("aab", "xy"), []step{
		{0, 'a', 1, ""}, {0, 'b', 0, "b"}, {0, 'c', 0, "c"},
		{1, 'a', 2, ""}, {1, 'b', 0, "ab"},
		{2, 'a', 2, "a"}, {2, 'b', 0, "xy"}, {2, 'c', 0, "aac"},
	})
	runSteps(t, newSwap("abab", ""), []step{
		{3, 'b', 0, ""}, {3, 'a', 1, "aba"}, {3, 'c', 0, "abac"}, {2, 'b', 0, "abb"},
	})
	runSteps(t, newSwap("a", "aa"), []step{{0, 'a', 0, "aa"}, {0, 'b', 0, "b"}})
}

func TestSwapEnd(t *testing.T) {
	m := newSwap("abcd", "x")
	for held, want := range []string{"", "a", "ab", "abc"} {
		if left := m.End(Held(held)); left != want {
			t.Errorf("P4: End(%d) = %q, want %q", held, left, want)
		}
	}
}

func TestRuledSteps(t *testing.T) {
	m := New(grammar.Scrub{Rules: []grammar.Rule{
		{Class: sets.Of[byte]('x')},
		{Class: sets.Span[byte]('x', 'z'), Parts: []grammar.Part{{Kind: grammar.PartText, Text: "<"}, {Kind: grammar.PartUpper}, {Kind: grammar.PartByte}}},
		{Class: sets.Of[byte]('Z', 0xff), Parts: []grammar.Part{{Kind: grammar.PartLower}}},
	}})
	runSteps(t, m, []step{
		{0, 'x', 0, ""}, {0, 'y', 0, "<Yy"}, {0, 'z', 0, "<Zz"}, {0, 'Z', 0, "z"}, {0, 0xff, 0, "\xff"}, {0, 0, 0, "\x00"}, {0, 'w', 0, "w"},
	})
	if left := m.End(0); left != "" {
		t.Errorf("P4: End = %q", left)
	}
}

// One chain at two states: neither sees what the other one holds.
func TestChainStates(t *testing.T) {
	policy := grammar.Policy{Scrubs: []grammar.Scrub{{Kind: grammar.Swap, From: "ab", To: "c"}, {Kind: grammar.Swap, From: "cc", To: "d"}}}
	chain := NewChain(policy, grammar.Chain{Scrubs: []int{0, 1}})
	var one, two State
	var out, other strings.Builder
	for _, b := range []byte("aba") {
		chain.Put(&one, b, &out)
	}
	branch := one
	chain.Put(&two, 'a', &other)
	if one == two || out.String() != "" || other.String() != "" {
		t.Fatalf("P4: held %v and %v, out %q and %q", one, two, out.String(), other.String())
	}
	chain.Put(&one, 'b', &out)
	chain.End(&one, &out)
	chain.End(&branch, &other)
	if out.String() != "d" || other.String() != "ca" {
		t.Errorf("P4: out %q and %q", out.String(), other.String())
	}
}

func TestChainOrder(t *testing.T) {
	policy := grammar.Policy{Scrubs: []grammar.Scrub{{Kind: grammar.Swap, From: "a", To: "b"}, {Kind: grammar.Swap, From: "b", To: "c"}}}
	for _, c := range []struct {
		scrubs []int
		want   string
	}{{[]int{0}, "bb"}, {[]int{0, 1}, "cc"}, {[]int{1, 0}, "bc"}, {[]int{1, 0, 1}, "cc"}} {
		if got := NewChain(policy, grammar.Chain{Scrubs: c.scrubs}).Text("ab"); got != c.want {
			t.Errorf("P4: %v makes %q, want %q", c.scrubs, got, c.want)
		}
	}
}
