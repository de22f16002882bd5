package machine

import "strings"

// swap holds as many bytes as the text so far may have of its first text's beginning.
type swap struct {
	from, to string
}

func (m swap) Put(held Held, b byte) (Held, string) {
	seen := m.from[:held] + alone(b)
	if seen == m.from {
		return 0, m.to
	}
	kept := m.begun(seen)
	return Held(kept), seen[:len(seen)-kept]
}

// begun tells how long the longest end of seen is with which the first text begins: to hold less would pass over a place at which it stands.
func (m swap) begun(seen string) int {
	for start := range len(seen) {
		if strings.HasPrefix(m.from, seen[start:]) {
			return len(seen) - start
		}
	}
	return 0
}

func (m swap) End(held Held) string {
	return m.from[:held]
}
