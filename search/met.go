// Package search looks for a shortest text, over all texts there are.
package search

// Met is what was met in a search: each key has a number, in the order in which they were met.
type Met[K comparable] struct {
	numbers map[K]int
	keys    []K
}

// NewMet gives one that has met nothing.
func NewMet[K comparable]() *Met[K] {
	return &Met[K]{numbers: make(map[K]int)}
}

// Meet tells the number of a key, and whether it is met for the first time.
func (m *Met[K]) Meet(key K) (int, bool) {
	if number, ok := m.numbers[key]; ok {
		return number, false
	}
	number := len(m.keys)
	m.numbers[key] = number
	m.keys = append(m.keys, key)
	return number, true
}

// Key tells the key of a number.
func (m *Met[K]) Key(number int) K {
	return m.keys[number]
}

// Count tells how many keys were met.
func (m *Met[K]) Count() int {
	return len(m.keys)
}
