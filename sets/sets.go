// Package sets: sets of places, kept as bits.
package sets

// Set holds places from 0 to 255. It is a plain value: two sets with the same places are equal.
type Set[P ~uint8] struct {
	words [4]uint64
}

// Of gives the set of these places.
func Of[P ~uint8](places ...P) Set[P] {
	var set Set[P]
	for _, place := range places {
		set.add(place)
	}
	return set
}

// Span gives the set of the places from first to last; it is empty if last is the lower one.
func Span[P ~uint8](first, last P) Set[P] {
	var set Set[P]
	// Counted in int: a place of P would wrap round behind 255 and never be above last.
	for place := int(first); place <= int(last); place++ {
		set.add(P(place))
	}
	return set
}

// Where gives the set of the places that are wanted.
func Where[P ~uint8](wanted func(P) bool) Set[P] {
	var set Set[P]
	for place := range 256 {
		if wanted(P(place)) {
			set.add(P(place))
		}
	}
	return set
}

func (s *Set[P]) add(place P) {
	s.words[place/64] |= 1 << (place % 64)
}

// Has tells whether the place is in the set.
func (s Set[P]) Has(place P) bool {
	return s.words[place/64]>>(place%64)&1 == 1
}

// Empty tells whether the set has no place.
func (s Set[P]) Empty() bool {
	return s == Set[P]{}
}

// Or gives the places of either set.
func (s Set[P]) Or(other Set[P]) Set[P] {
	for i, word := range other.words {
		s.words[i] |= word
	}
	return s
}

// And gives the places that both sets have.
func (s Set[P]) And(other Set[P]) Set[P] {
	for i, word := range other.words {
		s.words[i] &= word
	}
	return s
}
