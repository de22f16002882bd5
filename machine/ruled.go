package machine

import (
	"strings"

	"scrub/grammar"
)

// ruled is a scrub with rules, which never holds a byte: by byte, what stands for it.
type ruled struct {
	instead [256]string
}

func newRuled(rules []grammar.Rule) *ruled {
	m := &ruled{}
	for b := range m.instead {
		m.instead[b] = ruledByte(rules, byte(b))
	}
	return m
}

func ruledByte(rules []grammar.Rule, b byte) string {
	for _, rule := range rules {
		if rule.Class.Has(b) {
			return output(rule.Parts, b)
		}
	}
	return alone(b)
}

func output(parts []grammar.Part, b byte) string {
	var out strings.Builder
	for _, part := range parts {
		switch part.Kind {
		case grammar.PartText:
			out.WriteString(part.Text)
		case grammar.PartByte:
			out.WriteByte(b)
		case grammar.PartUpper:
			out.WriteByte(Upper(b))
		case grammar.PartLower:
			out.WriteByte(Lower(b))
		}
	}
	return out.String()
}

// Upper gives a small letter as the capital one, and every other byte as it is.
func Upper(b byte) byte {
	if 'a' <= b && b <= 'z' {
		return b - 'a' + 'A'
	}
	return b
}

// Lower gives a capital letter as the small one, and every other byte as it is.
func Lower(b byte) byte {
	if 'A' <= b && b <= 'Z' {
		return b - 'A' + 'a'
	}
	return b
}

func (m *ruled) Put(held Held, b byte) (Held, string) {
	return 0, m.instead[b]
}

func (m *ruled) End(held Held) string {
	return ""
}
