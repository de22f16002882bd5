package audit

import (
	"slices"

	"scrub/grammar"
	"scrub/machine"
	"scrub/sets"
)

// letters gives the bytes to look at, lowest first: of bytes that no mark tells apart the lowest one alone.
func letters(marks []sets.Set[byte]) []byte {
	var chosen []byte
	for b := range 256 {
		alike := func(other byte) bool { return !apart(marks, byte(b), other) }
		if !slices.ContainsFunc(chosen, alike) {
			chosen = append(chosen, byte(b))
		}
	}
	return chosen
}

func apart(marks []sets.Set[byte], one, two byte) bool {
	for _, mark := range marks {
		if mark.Has(one) != mark.Has(two) {
			return true
		}
	}
	return false
}

// scrubsOf gives the scrubs of some chains.
func scrubsOf(policy grammar.Policy, chains []int) []grammar.Scrub {
	var scrubs []grammar.Scrub
	for _, chain := range chains {
		for _, scrub := range policy.Chains[chain].Scrubs {
			scrubs = append(scrubs, policy.Scrubs[scrub])
		}
	}
	return scrubs
}

// scrubMarks gives the sets by which scrubs choose what to do with a byte.
func scrubMarks(scrubs []grammar.Scrub) []sets.Set[byte] {
	var marks []sets.Set[byte]
	for _, scrub := range scrubs {
		marks = append(marks, singles(scrub.From)...)
		for _, rule := range scrub.Rules {
			marks = append(marks, rule.Class)
		}
	}
	return marks
}

// textMarks gives the sets by which what scrubs put in may be told from what came in: a byte that comes in may look like one that was put in, and a letter of a case like itself in that case.
func textMarks(scrubs []grammar.Scrub) []sets.Set[byte] {
	var marks []sets.Set[byte]
	for _, scrub := range scrubs {
		marks = append(marks, singles(scrub.To)...)
		for _, part := range partsOf(scrub) {
			marks = append(marks, singles(part.Text)...)
		}
	}
	if !cased(scrubs) {
		return marks
	}
	return append(marks, sets.Span[byte]('a', 'z'), sets.Span[byte]('A', 'Z'))
}

func singles(text string) []sets.Set[byte] {
	var marks []sets.Set[byte]
	for i := range len(text) {
		marks = append(marks, sets.Of(text[i]))
	}
	return marks
}

func partsOf(scrub grammar.Scrub) []grammar.Part {
	var parts []grammar.Part
	for _, rule := range scrub.Rules {
		parts = append(parts, rule.Parts...)
	}
	return parts
}

// inCases adds to the marks those that tell bytes apart by what becomes of them in another case, if the scrubs change any case.
func inCases(scrubs []grammar.Scrub, marks []sets.Set[byte]) []sets.Set[byte] {
	if !cased(scrubs) {
		return marks
	}
	all := slices.Clone(marks)
	for _, mark := range marks {
		upper := sets.Where(func(b byte) bool { return mark.Has(machine.Upper(b)) })
		lower := sets.Where(func(b byte) bool { return mark.Has(machine.Lower(b)) })
		all = append(all, upper, lower)
	}
	return all
}

func cased(scrubs []grammar.Scrub) bool {
	return slices.ContainsFunc(scrubs, func(scrub grammar.Scrub) bool {
		return slices.ContainsFunc(partsOf(scrub), func(part grammar.Part) bool {
			return part.Kind == grammar.PartUpper || part.Kind == grammar.PartLower
		})
	})
}
