package audit

import (
	"fmt"
	"math/rand"
	"strings"
	"testing"

	"scrub/grammar"
)

func read(t *testing.T, text string) grammar.Policy {
	t.Helper()
	policy, fault := grammar.Read(text)
	if fault.Kind != grammar.None {
		t.Fatalf("P2: %q: %v", text, fault)
	}
	return policy
}

func allBytes() []byte {
	all := make([]byte, 256)
	for b := range all {
		all[b] = byte(b)
	}
	return all
}

// Bytes that nothing tells apart are looked at once, and by the lowest one.
func TestLetters(t *testing.T) {
	for _, c := range []struct{ policy, want string }{
		{`scrub s{}chain c=s;never c/.*/;`, "\x00"},
		{`scrub s{[\00-\ff]to none;}chain c=s;never c/.*/;`, "\x00"},
		{`scrub s{[q]to none;}chain c=s;never c/.*/;`, "\x00q"},
		{`scrub s{[q]to "x";}chain c=s;never c/.*/;`, "\x00q"},
		{`scrub s{[q-s]to"x";[r-t]to"y";}chain c=s;never c/.*/;`, "\x00qrt"},
		{`scrub s{}chain c=s;never c/[c-f]([e-h]|\ff)/;`, "\x00ceg\xff"},
		{`scrub s swap "abca" "x";chain c=s;never c/.*/;`, "\x00abc"},
		{`scrub r{[q]to none;}scrub s swap "b" "x";scrub n swap "n" "x";chain d=n;chain c=r s;never c/.*/;`, "\x00bq"},
		{`scrub s{[q]to upper;}chain c=s;never c/x/;`, "\x00QXqx"},
		{`scrub s{}chain c=s;same c c;`, "\x00"},
		{`scrub s{[q-t]to "x";}chain c=s;same c c;`, "\x00qx"},
		{`scrub s swap "a" "x";scrub r{[b]to "y"byte;}chain c=s;chain d=r;same c d;`, "\x00abxy"},
		{`scrub s{[\00-\ff]to upper;}chain c=s;same c c;`, "\x00Aa"},
		{`scrub s{[m]to lower;}chain c=s;same c c;`, "\x00AMam"},
	} {
		policy := read(t, c.policy)
		check := policy.Checks[0]
		got := neverLetters
		if check.Kind == grammar.Same {
			got = sameLetters
		}
		if got := string(got(policy, check)); got != c.want {
			t.Errorf("P5: %q: letters %q, want %q", c.policy, got, c.want)
		}
	}
}

func some(chance *rand.Rand, letters string, least, most int) string {
	text := ""
	for range least + chance.Intn(most-least+1) {
		text += string(letters[chance.Intn(len(letters))])
	}
	return text
}

func someScrub(chance *rand.Rand) string {
	const letters = "aAbBq1"
	if chance.Intn(2) == 0 {
		return fmt.Sprintf("swap\"%s\"\"%s\";", some(chance, letters, 1, 3), some(chance, letters, 0, 2))
	}
	classes := strings.Fields(`[a] [B] [q] [1-9] [@-C] [Q-S] [a-c] [q-t] [A-Z] [a-z] [\00-\ff] [A-z] [1a]`)
	outputs := strings.Fields(`none byte upper lower byte_"a" "q" "A" "1"upper lower"b" byte_byte`)
	rules := ""
	for range 1 + chance.Intn(3) {
		rules += classes[chance.Intn(len(classes))] + "to " + strings.ReplaceAll(outputs[chance.Intn(len(outputs))], "_", " ") + ";"
	}
	return "{" + rules + "}"
}

func somePolicy(chance *rand.Rand) string {
	policy := ""
	for _, name := range []string{"s", "t", "u"} {
		policy += "scrub " + name + " " + someScrub(chance)
	}
	for _, name := range []string{"c", "d"} {
		policy += "chain " + name + "="
		for range 1 + chance.Intn(3) {
			policy += " " + some(chance, "stu", 1, 1)
		}
		policy += ";"
	}
	bases := strings.Fields(`a A b B q Q 1 . [a-c] [A-Q] a* .* [q-t]+ (ab)* (Q|1)`)
	for range 2 {
		policy += "never c/"
		for range 1 + chance.Intn(4) {
			policy += bases[chance.Intn(len(bases))]
		}
		policy += "/;"
	}
	return policy + "same c d;same c c;"
}

// The few letters lead to the same as all the bytes do.
func TestLettersSuffice(t *testing.T) {
	chance := rand.New(rand.NewSource(1))
	for range 3000 {
		text := somePolicy(chance)
		policy := read(t, text)
		for i, check := range policy.Checks {
			look, short := never, neverLetters
			if check.Kind == grammar.Same {
				look, short = same, sameLetters
			}
			few, found := look(policy, check, short(policy, check))
			all, foundAll := look(policy, check, allBytes())
			if few != all || found != foundAll {
				t.Fatalf("P5: %q, check %d: %q, %v, but with all bytes %q, %v", text, i, few, found, all, foundAll)
			}
		}
	}
}

func TestLeads(t *testing.T) {
	for _, c := range []struct{ left, other, ahead, otherAhead string }{
		{"", "", "", ""}, {"ab", "ab", "", ""}, {"b", "ab", "a", ""}, {"ab", "b", "", "a"}, {"", "abc", "abc", ""}, {"abc", "", "", "abc"},
	} {
		if ahead, otherAhead := leads(c.left, c.other); ahead != c.ahead || otherAhead != c.otherAhead {
			t.Errorf("P5: leads(%q, %q) = %q, %q", c.left, c.other, ahead, otherAhead)
		}
	}
}
