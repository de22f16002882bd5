package grammar

// FaultKind tells what is wrong. The kinds stand in the order, and so have the numbers, of DOC.md's errors.
type FaultKind int

const (
	None FaultKind = iota
	Long
	Text
	Many
	Twice
	Name
	Range
)

// Fault is what is wrong with a text, and where; the zero Fault is none.
type Fault struct {
	Kind  FaultKind
	Place int
}

// Read reads a policy. Beside a fault the policy is empty.
func Read(text string) (Policy, Fault) {
	r := reader{text: text}
	fault := r.attempt(r.readPolicy)
	if fault.Kind != None {
		return Policy{}, fault
	}
	return r.policy, fault
}

// ReadExpression reads an expression that stands alone. Beside a fault the expression is nil.
func ReadExpression(text string) (Expression, Fault) {
	r := reader{text: text}
	var expression Expression
	fault := r.attempt(func() {
		expression = r.readExpression(0)
		if r.at < len(r.text) {
			r.giveUp()
		}
	})
	if fault.Kind != None {
		return nil, fault
	}
	return expression, fault
}

// reader goes through a text once, from the left.
type reader struct {
	text   string
	at     int   // the first byte not yet read
	fault  Fault // the first one met so far, of those that leave the text readable
	bases  int   // of the expression that is being read
	policy Policy
}

// What the reader panics with where the text breaks off.
type (
	misplaced int      // the place of what cannot stand there
	missing   struct{} // the text ends too early
)

// attempt reads until the end, or until the text breaks off, and tells the fault.
func (r *reader) attempt(read func()) (fault Fault) {
	if len(r.text) > MaxPolicy {
		return Fault{Kind: Long}
	}
	defer func() {
		switch broken := recover().(type) {
		case nil:
		case misplaced:
			fault = Fault{Text, int(broken)}
		case missing:
			fault = Fault{Text, len(r.text)}
		default:
			// Not the reader's own: a flaw of the program, which must not pass for an answer.
			panic(broken)
		}
	}()
	read()
	return r.fault
}

// giveUp breaks off at what comes next.
func (r *reader) giveUp() {
	if r.at == len(r.text) {
		panic(missing{})
	}
	panic(misplaced(r.at))
}

// note keeps a fault that leaves the text readable, if it is the first one by its place, and then by its kind.
func (r *reader) note(kind FaultKind, place int) {
	first := r.fault
	if first.Kind == None || place < first.Place || place == first.Place && kind < first.Kind {
		r.fault = Fault{kind, place}
	}
}

// limit notes a thing at the place that comes behind as many others as there may be.
func (r *reader) limit(others, most, place int) {
	if others >= most {
		r.note(Many, place)
	}
}
