package pattern

import (
	"scrub/search"
	"scrub/sets"
)

// Spot is a set of places that a walk has come to, by its number.
type Spot int

// unknown stands where a walk has not gone yet; it is no step's end, as no byte leads back ahead of all.
const unknown Spot = 0

// Walk is a pattern that is walked by many texts: each step from a set of places is worked out once.
type Walk struct {
	pattern *Pattern
	met     *search.Met[sets.Set[Place]]
	steps   [][256]Spot
}

// NewWalk makes a walk, which stands ahead of all at the spot 0.
func NewWalk(p *Pattern) *Walk {
	w := &Walk{pattern: p, met: search.NewMet[sets.Set[Place]]()}
	w.spot(sets.Of[Place](0))
	return w
}

func (w *Walk) spot(places sets.Set[Place]) Spot {
	number, first := w.met.Meet(places)
	if first {
		w.steps = append(w.steps, [256]Spot{})
	}
	return Spot(number)
}

// Through tells to which spot a text leads.
func (w *Walk) Through(spot Spot, text string) Spot {
	for i := range len(text) {
		then := w.steps[spot][text[i]]
		if then == unknown {
			then = w.spot(w.pattern.step(w.places(spot), text[i]))
			w.steps[spot][text[i]] = then
		}
		spot = then
	}
	return spot
}

func (w *Walk) places(spot Spot) sets.Set[Place] {
	return w.met.Key(int(spot))
}

// Lost tells that no text, whatever it goes on with, is one of the expression's.
func (w *Walk) Lost(spot Spot) bool {
	return w.places(spot).Empty()
}

// Ends tells whether a text that ends here is one of the expression's.
func (w *Walk) Ends(spot Spot) bool {
	return !w.places(spot).And(w.pattern.ends).Empty()
}
