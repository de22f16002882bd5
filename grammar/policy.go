package grammar

import "slices"

func (r *reader) readPolicy() {
	for {
		switch r.look() {
		case signEnd:
			return
		case wordScrub:
			r.readScrub()
		case wordChain:
			r.readChain()
		case wordNever:
			r.readNever()
		case wordSame:
			r.readSame()
		default:
			r.giveUp()
		}
	}
}

func (r *reader) readScrub() {
	place := r.take(wordScrub)
	r.limit(len(r.policy.Scrubs), MaxScrubs, place)
	scrub := Scrub{Name: r.newName()}
	if r.look() == wordSwap {
		scrub.Kind = Swap
		scrub.From, scrub.To = r.readSwap()
	} else {
		scrub.Rules = r.readRules()
	}
	r.policy.Scrubs = append(r.policy.Scrubs, scrub)
}

func (r *reader) readSwap() (from, to string) {
	r.take(wordSwap)
	from, place := r.readWord()
	if from == "" {
		r.note(Many, place)
	}
	to, _ = r.readWord()
	r.take(signSemicolon)
	return from, to
}

func (r *reader) readRules() []Rule {
	r.take(signOpen)
	var rules []Rule
	for r.look() == signClass {
		r.limit(len(rules), MaxRules, r.at)
		rules = append(rules, r.readRule())
	}
	r.take(signClose)
	return rules
}

func (r *reader) readRule() Rule {
	rule := Rule{Class: r.readClass()}
	r.take(wordTo)
	if r.look() == wordNone {
		r.take(wordNone)
	} else {
		rule.Parts = r.readParts()
	}
	r.take(signSemicolon)
	return rule
}

func (r *reader) readParts() []Part {
	parts := []Part{r.readPart()}
	for r.look() != signSemicolon {
		r.limit(len(parts), MaxParts, r.at)
		parts = append(parts, r.readPart())
	}
	return parts
}

func (r *reader) readPart() Part {
	next := r.look()
	if next == signText {
		text, _ := r.readWord()
		return Part{Kind: PartText, Text: text}
	}
	kind := PartByte
	switch next {
	case wordByte:
	case wordUpper:
		kind = PartUpper
	case wordLower:
		kind = PartLower
	default:
		r.giveUp()
	}
	r.take(next)
	return Part{Kind: kind}
}

// readWord reads a text that may not be too long, and tells its place too.
func (r *reader) readWord() (string, int) {
	place := r.take(signText)
	word := r.readLetters()
	if len(word) > MaxWord {
		r.note(Many, place)
	}
	return word, place
}

func (r *reader) readChain() {
	place := r.take(wordChain)
	r.limit(len(r.policy.Chains), MaxChains, place)
	chain := Chain{Name: r.newName()}
	r.take(signEqual)
	chain.Scrubs = append(chain.Scrubs, r.knownScrub())
	for r.look() == signName {
		r.limit(len(chain.Scrubs), MaxChain, r.at)
		chain.Scrubs = append(chain.Scrubs, r.knownScrub())
	}
	r.take(signSemicolon)
	r.policy.Chains = append(r.policy.Chains, chain)
}

func (r *reader) readNever() {
	place := r.take(wordNever)
	check := Check{Kind: Never, Chains: []int{r.knownChain()}}
	r.take(signExpression)
	r.bases = 0
	check.Expression = r.readExpression(0)
	if !r.accept('/') {
		r.giveUp()
	}
	r.endCheck(check, place)
}

func (r *reader) readSame() {
	place := r.take(wordSame)
	first := r.knownChain()
	second := r.knownChain()
	r.endCheck(Check{Kind: Same, Chains: []int{first, second}}, place)
}

func (r *reader) endCheck(check Check, place int) {
	r.take(signSemicolon)
	r.limit(len(r.policy.Checks), MaxChecks, place)
	r.policy.Checks = append(r.policy.Checks, check)
}

func (r *reader) readName() (string, int) {
	place := r.take(signName)
	return r.text[place:r.at], place
}

func (r *reader) newName() string {
	name, place := r.readName()
	if r.policy.scrubNumber(name) >= 0 || r.policy.ChainNumber(name) >= 0 {
		r.note(Twice, place)
	}
	return name
}

func (r *reader) knownScrub() int {
	name, place := r.readName()
	return r.known(r.policy.scrubNumber(name), place)
}

func (r *reader) knownChain() int {
	name, place := r.readName()
	return r.known(r.policy.ChainNumber(name), place)
}

func (r *reader) known(number, place int) int {
	if number < 0 {
		r.note(Name, place)
	}
	return number
}

// ChainNumber tells the number of the chain of that name, or -1 if there is none.
func (p *Policy) ChainNumber(name string) int {
	return slices.IndexFunc(p.Chains, func(c Chain) bool { return c.Name == name })
}

func (p *Policy) scrubNumber(name string) int {
	return slices.IndexFunc(p.Scrubs, func(s Scrub) bool { return s.Name == name })
}
