package grammar

// sign is a kind of sign. A text, a class and an expression are told by their first byte.
type sign int

const (
	signEnd sign = iota
	signStray
	signName
	signText
	signClass
	signExpression
	signOpen
	signClose
	signEqual
	signSemicolon
	wordScrub
	wordSwap
	wordTo
	wordNone
	wordByte
	wordUpper
	wordLower
	wordChain
	wordNever
	wordSame
)

// look passes over blanks and tells the kind of the sign behind them, which it does not take.
func (r *reader) look() sign {
	for r.at < len(r.text) && (r.text[r.at] == ' ' || r.text[r.at] == '\n') {
		r.at++
	}
	if r.at == len(r.text) {
		return signEnd
	}
	if row := r.smallLetters(); row != "" {
		return wordSign(row)
	}
	return singleSign(r.text[r.at])
}

// smallLetters gives the row of small letters that comes next, as long as it is.
func (r *reader) smallLetters() string {
	end := r.at
	for end < len(r.text) && 'a' <= r.text[end] && r.text[end] <= 'z' {
		end++
	}
	return r.text[r.at:end]
}

// take takes a sign of that kind, or the first byte of one that has letters within, and tells its place.
func (r *reader) take(want sign) int {
	if r.look() != want {
		r.giveUp()
	}
	place := r.at
	r.at += max(1, len(r.smallLetters()))
	return place
}

func wordSign(row string) sign {
	switch row {
	case "scrub":
		return wordScrub
	case "swap":
		return wordSwap
	case "to":
		return wordTo
	case "none":
		return wordNone
	case "byte":
		return wordByte
	case "upper":
		return wordUpper
	case "lower":
		return wordLower
	case "chain":
		return wordChain
	case "never":
		return wordNever
	case "same":
		return wordSame
	}
	if len(row) > MaxName {
		return signStray
	}
	return signName
}

func singleSign(first byte) sign {
	switch first {
	case '"':
		return signText
	case '[':
		return signClass
	case '/':
		return signExpression
	case '{':
		return signOpen
	case '}':
		return signClose
	case '=':
		return signEqual
	case ';':
		return signSemicolon
	}
	return signStray
}
