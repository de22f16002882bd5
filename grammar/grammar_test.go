package grammar

import (
	"reflect"
	"testing"

	"scrub/sets"
)

func TestReadPolicy(t *testing.T) {
	const text = `scrub a { [a-c\20] to none; [\00-\ff!]to"x\22"byte upper;[z]to lower "" ; } scrub b swap "ab" "\5c";` +
		"\nchain c = a b a; chain d=b; never d /a|[b]*.+(c|)?/; same c d; scrub e{}"
	want := Policy{
		Scrubs: []Scrub{
			{Name: "a", Rules: []Rule{
				{Class: sets.Of[byte]('a', 'b', 'c', ' ')},
				{Class: sets.Span[byte](0, 255), Parts: []Part{{PartText, `x"`}, {Kind: PartByte}, {Kind: PartUpper}}},
				{Class: sets.Of[byte]('z'), Parts: []Part{{Kind: PartLower}, {Kind: PartText}}},
			}},
			{Name: "b", Kind: Swap, From: "ab", To: `\`},
			{Name: "e"},
		},
		Chains: []Chain{{"c", []int{0, 1, 0}}, {"d", []int{1}}},
		Checks: []Check{
			{Kind: Never, Chains: []int{1}, Expression: Expression{
				{{Kind: BaseLetter, Letter: 'a'}},
				{
					{Kind: BaseClass, Class: sets.Of[byte]('b'), Repeat: AnyTimes},
					{Kind: BaseAny, Repeat: AtLeastOnce},
					{Kind: BaseGroup, Group: Expression{{{Kind: BaseLetter, Letter: 'c'}}, nil}, Repeat: AtMostOnce},
				},
			}},
			{Kind: Same, Chains: []int{0, 1}},
		},
	}
	got, fault := Read(text)
	if fault != (Fault{}) || !reflect.DeepEqual(got, want) {
		t.Errorf("Read = %+v, %v, want %+v", got, fault, want)
	}
}

func TestChainNumber(t *testing.T) {
	policy, _ := Read("scrub a{}chain c=a;chain d=a;")
	for name, want := range map[string]int{"c": 0, "d": 1, "a": -1, "": -1} {
		if got := policy.ChainNumber(name); got != want {
			t.Errorf("ChainNumber(%q) = %d, want %d", name, got, want)
		}
	}
}

// Beside a fault nothing half-read may leak out.
func TestNothingBesideFault(t *testing.T) {
	for _, text := range []string{"scrub a{}x", "scrub a{}scrub a{}", "scrub a{}chain c=b;"} {
		if policy, fault := Read(text); fault.Kind == None || !reflect.DeepEqual(policy, Policy{}) {
			t.Errorf("Read(%q) = %+v, %v", text, policy, fault)
		}
	}
	for _, text := range []string{"a)", "[b-a]", "abcdefghijklm"} {
		if expression, fault := ReadExpression(text); fault.Kind == None || expression != nil {
			t.Errorf("ReadExpression(%q) = %+v, %v", text, expression, fault)
		}
	}
}

// A panic that is not the reader's own is a flaw of the program and must not pass for an answer.
func TestForeignPanic(t *testing.T) {
	defer func() {
		if recover() != "foreign" {
			t.Error("a foreign panic was taken for a text that breaks off")
		}
	}()
	r := reader{}
	r.attempt(func() { panic("foreign") })
}
