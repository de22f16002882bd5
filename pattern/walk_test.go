package pattern

import (
	"math/rand"
	"slices"
	"testing"

	"scrub/grammar"
	"scrub/sets"
)

func newPattern(t *testing.T, text string) *Pattern {
	t.Helper()
	expression, fault := grammar.ReadExpression(text)
	if fault.Kind != grammar.None {
		t.Fatalf("P3: %q: %v", text, fault)
	}
	return New(expression)
}

// A walk comes to the same answers as the pattern, piece by piece and whole, in whatever order texts are asked.
func TestWalk(t *testing.T) {
	chance := rand.New(rand.NewSource(1))
	for _, text := range []string{"", "a", "a*", "(ab|ba)*", ".*a..", "(a|b)*a(a|b)(a|b)", "a?a?a?aaa", "[ab]+c", "(a*b)+|c"} {
		p := newPattern(t, text)
		walk := NewWalk(p)
		for range 3000 {
			some := make([]byte, chance.Intn(9))
			for i := range some {
				some[i] = "aabbc"[chance.Intn(5)]
			}
			half := chance.Intn(len(some) + 1)
			spot := walk.Through(walk.Through(0, string(some[:half])), string(some[half:]))
			if walk.Ends(spot) != p.Has(string(some)) || spot != walk.Through(0, string(some)) {
				t.Fatalf("P5: %q at %q", text, some)
			}
		}
	}
}

func TestWalkLost(t *testing.T) {
	walk := NewWalk(newPattern(t, "ab*"))
	for text, want := range map[string]bool{"": false, "a": false, "abbb": false, "b": true, "aa": true, "abba": true, "bab": true} {
		if spot := walk.Through(0, text); walk.Lost(spot) != want {
			t.Errorf("P5: %q: lost is %v", text, !want)
		}
	}
}

// However long the texts are, the spots are as many as there are sets of places.
func TestWalkSpots(t *testing.T) {
	walk := NewWalk(newPattern(t, ".*a.........."))
	text := make([]byte, 100000)
	chance := rand.New(rand.NewSource(2))
	for i := range text {
		text[i] = "ab"[chance.Intn(2)]
	}
	walk.Through(0, string(text))
	if count := walk.met.Count(); count > 1<<12 || len(walk.steps) != count {
		t.Errorf("P5: %d spots, %d of steps", count, len(walk.steps))
	}
}

func TestMarks(t *testing.T) {
	marks := newPattern(t, "a([b-d]|.)*").Marks()
	for _, want := range []sets.Set[byte]{sets.Of[byte]('a'), sets.Span[byte]('b', 'd'), sets.Span[byte](0, 255)} {
		if !slices.Contains(marks, want) {
			t.Errorf("P5: %v is not among %v", want, marks)
		}
	}
}
