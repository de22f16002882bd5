package grammar

import (
	"strings"

	"scrub/sets"
)

// accept takes the byte, if it comes next.
func (r *reader) accept(next byte) bool {
	if r.at == len(r.text) || r.text[r.at] != next {
		return false
	}
	r.at++
	return true
}

// readLetters reads a text's letters and its second quote.
func (r *reader) readLetters() string {
	var letters []byte
	for !r.accept('"') {
		letters = append(letters, r.readLetter(plainInText))
	}
	return string(letters)
}

// readLetter reads a letter: a byte that is plain there, or one told by its number.
func (r *reader) readLetter(plain func(byte) bool) byte {
	if r.accept('\\') {
		high := r.readDigit()
		return high<<4 | r.readDigit()
	}
	if r.at == len(r.text) || !plain(r.text[r.at]) {
		r.giveUp()
	}
	r.at++
	return r.text[r.at-1]
}

func (r *reader) readDigit() byte {
	const digits = "0123456789abcdef"
	if r.at == len(r.text) {
		r.giveUp()
	}
	value := strings.IndexByte(digits, r.text[r.at])
	if value < 0 {
		r.giveUp()
	}
	r.at++
	return byte(value)
}

func plainInText(b byte) bool {
	return 32 <= b && b <= 126 && b != '"' && b != '\\'
}

func plainInClass(b byte) bool {
	return 33 <= b && b <= 126 && strings.IndexByte(`-[]\`, b) < 0
}

func plainInExpression(b byte) bool {
	return 32 <= b && b <= 126 && strings.IndexByte(`/|*+?()[].\`, b) < 0
}

// readClass reads a class, whose first bracket comes next.
func (r *reader) readClass() sets.Set[byte] {
	r.accept('[')
	class := r.readItem()
	for !r.accept(']') {
		class = class.Or(r.readItem())
	}
	return class
}

func (r *reader) readItem() sets.Set[byte] {
	place := r.at
	first := r.readLetter(plainInClass)
	last := first
	if r.accept('-') {
		last = r.readLetter(plainInClass)
	}
	if last < first {
		r.note(Range, place)
	}
	return sets.Span(first, last)
}

// readExpression reads as far as rows go; what must stand behind them is the caller's to ask.
func (r *reader) readExpression(depth int) Expression {
	expression := Expression{r.readRow(depth)}
	for r.accept('|') {
		expression = append(expression, r.readRow(depth))
	}
	return expression
}

func (r *reader) readRow(depth int) Row {
	var row Row
	for r.beginsBase() {
		r.limit(r.bases, MaxBases, r.at)
		r.bases++
		base := r.readBase(depth)
		base.Repeat = r.readRepeat()
		row = append(row, base)
	}
	return row
}

func (r *reader) beginsBase() bool {
	if r.at == len(r.text) {
		return false
	}
	next := r.text[r.at]
	return plainInExpression(next) || strings.IndexByte(`\.[(`, next) >= 0
}

func (r *reader) readBase(depth int) Base {
	switch r.text[r.at] {
	case '.':
		r.at++
		return Base{Kind: BaseAny}
	case '[':
		return Base{Kind: BaseClass, Class: r.readClass()}
	case '(':
		return Base{Kind: BaseGroup, Group: r.readGroup(depth)}
	}
	return Base{Kind: BaseLetter, Letter: r.readLetter(plainInExpression)}
}

// readGroup reads a group that stands within depth others.
func (r *reader) readGroup(depth int) Expression {
	r.limit(depth, MaxNest, r.at)
	r.accept('(')
	group := r.readExpression(depth + 1)
	if !r.accept(')') {
		r.giveUp()
	}
	return group
}

func (r *reader) readRepeat() Repeat {
	switch {
	case r.accept('*'):
		return AnyTimes
	case r.accept('+'):
		return AtLeastOnce
	case r.accept('?'):
		return AtMostOnce
	}
	return Once
}
