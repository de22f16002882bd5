// Package pattern tells which texts an expression has.
package pattern

import (
	"scrub/grammar"
	"scrub/sets"
)

// Place is a place in an expression: 0 is ahead of all, the others are its bases that stand for one byte.
type Place uint8

// Pattern is an expression as the ways from place to place: all of them are walked at once, so a text is read once, whatever its length.
type Pattern struct {
	next   []sets.Set[Place]    // by place: the places that may come right behind it
	having [256]sets.Set[Place] // by byte: the places at which it may stand
	ends   sets.Set[Place]      // the places behind which a text may end
}

// New makes the pattern of an expression that was read without fault.
func New(expression grammar.Expression) *Pattern {
	p := &Pattern{next: make([]sets.Set[Place], 1)}
	start := sets.Of[Place](0)
	whole := p.behind(piece{first: start, last: start}, p.addExpression(expression))
	p.ends = whole.last
	return p
}

// Has tells whether the expression has the text.
func (p *Pattern) Has(text string) bool {
	now := sets.Of[Place](0)
	for i := 0; i < len(text) && !now.Empty(); i++ {
		now = p.step(now, text[i])
	}
	return !now.And(p.ends).Empty()
}

// Marks gives the sets by which the pattern tells bytes apart: for each place the bytes that may stand there.
func (p *Pattern) Marks() []sets.Set[byte] {
	var marks []sets.Set[byte]
	for place := range p.next {
		marks = append(marks, sets.Where(func(b byte) bool { return p.having[b].Has(Place(place)) }))
	}
	return marks
}

func (p *Pattern) step(now sets.Set[Place], b byte) sets.Set[Place] {
	var reached sets.Set[Place]
	for place, next := range p.next {
		if now.Has(Place(place)) {
			reached = reached.Or(next)
		}
	}
	return reached.And(p.having[b])
}

// piece is what the pieces around it need to know of a piece of an expression.
type piece struct {
	empty bool            // whether it has the empty text
	first sets.Set[Place] // the places at which its texts begin
	last  sets.Set[Place] // the places at which they end
}

func (p *Pattern) addExpression(expression grammar.Expression) piece {
	var whole piece
	for _, row := range expression {
		added := p.addRow(row)
		whole.empty = whole.empty || added.empty
		whole.first = whole.first.Or(added.first)
		whole.last = whole.last.Or(added.last)
	}
	return whole
}

func (p *Pattern) addRow(row grammar.Row) piece {
	whole := piece{empty: true}
	for _, base := range row {
		whole = p.behind(whole, p.addRepeated(base))
	}
	return whole
}

// behind puts the second piece behind the first one.
func (p *Pattern) behind(one, two piece) piece {
	p.lead(one.last, two.first)
	whole := piece{empty: one.empty && two.empty, first: one.first, last: two.last}
	if one.empty {
		whole.first = whole.first.Or(two.first)
	}
	if two.empty {
		whole.last = whole.last.Or(one.last)
	}
	return whole
}

func (p *Pattern) lead(from, to sets.Set[Place]) {
	for place := range p.next {
		if from.Has(Place(place)) {
			p.next[place] = p.next[place].Or(to)
		}
	}
}

func (p *Pattern) addRepeated(base grammar.Base) piece {
	added := p.addBase(base)
	if base.Repeat == grammar.AnyTimes || base.Repeat == grammar.AtLeastOnce {
		p.lead(added.last, added.first)
	}
	if base.Repeat == grammar.AnyTimes || base.Repeat == grammar.AtMostOnce {
		added.empty = true
	}
	return added
}

func (p *Pattern) addBase(base grammar.Base) piece {
	switch base.Kind {
	case grammar.BaseLetter:
		return p.addPlace(sets.Of(base.Letter))
	case grammar.BaseAny:
		return p.addPlace(sets.Span[byte](0, 255))
	case grammar.BaseClass:
		return p.addPlace(base.Class)
	}
	return p.addExpression(base.Group)
}

func (p *Pattern) addPlace(bytes sets.Set[byte]) piece {
	here := sets.Of(Place(len(p.next)))
	p.next = append(p.next, sets.Set[Place]{})
	for b := range p.having {
		if bytes.Has(byte(b)) {
			p.having[b] = p.having[b].Or(here)
		}
	}
	return piece{first: here, last: here}
}
