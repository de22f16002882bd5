package scrub

import (
	"math/rand"
	"slices"
	"strings"
	"testing"
	"time"
)

// orderly asks the calls twice and fails unless what they answer has the form of P1.
func orderly(t *testing.T, input, text string) {
	t.Helper()
	errno, place := Check(input)
	if againErrno, again := Check(input); againErrno != errno || again != place {
		t.Fatalf("P1: Check(%.400q) = %d, %d and then %d, %d", input, errno, place, againErrno, again)
	}
	tidy(t, input, errno, place)
	has, errno, place := Match(input, text)
	if againHas, againErrno, again := Match(input, text); againHas != has || againErrno != errno || again != place {
		t.Fatalf("P1: Match(%.400q, %.40q) answers two things", input, text)
	}
	if errno != OK && has {
		t.Fatalf("P1: Match(%.400q, %.40q) is true beside the error %d", input, text, errno)
	}
	if errno == ErrTwice || errno == ErrName {
		t.Fatalf("P3: Match(%.400q, %.40q): the error %d", input, text, errno)
	}
	tidy(t, input, errno, place)
	orderlyApply(t, input, text)
	orderlyAudit(t, input)
}

// orderlyApply asks for chains that are there, at times, and for some that never are.
func orderlyApply(t *testing.T, policy, text string) {
	t.Helper()
	wrong, at := Check(policy)
	for _, chain := range []string{"c", "p", "q", "", text} {
		made, errno, place := Apply(policy, chain, text)
		if againMade, againErrno, again := Apply(policy, chain, text); againMade != made || againErrno != errno || again != place {
			t.Fatalf("P1: Apply(%.400q, %.40q, %.40q) answers two things", policy, chain, text)
		}
		if errno != OK && made != "" {
			t.Fatalf("P1: Apply(%.400q, %.40q, %.40q) makes a text beside the error %d", policy, chain, text, errno)
		}
		if wrong != OK && (errno != wrong || place != at) {
			t.Fatalf("P4: Apply(%.400q, %.40q, %.40q): %d, %d, but Check %d, %d", policy, chain, text, errno, place, wrong, at)
		}
		if wrong == OK && (errno != OK && errno != ErrName || place != 0) {
			t.Fatalf("P4: Apply(%.400q, %.40q, %.40q): %d, %d", policy, chain, text, errno, place)
		}
	}
}

func orderlyAudit(t *testing.T, policy string) {
	t.Helper()
	wrong, at := Check(policy)
	verdicts, errno, place := Audit(policy)
	if errno != wrong || place != at {
		t.Fatalf("P5: Audit(%.400q): %d, %d, but Check %d, %d", policy, errno, place, wrong, at)
	}
	if again, againErrno, againPlace := Audit(policy); !slices.Equal(again, verdicts) || againErrno != errno || againPlace != place {
		t.Fatalf("P1: Audit(%.400q) answers two things", policy)
	}
	if errno != OK && verdicts != nil {
		t.Fatalf("P1: Audit(%.400q) tells %v beside the error %d", policy, verdicts, errno)
	}
	for _, v := range verdicts {
		if v.Kind < Safe || v.Kind > Unlike || (v.Kind == Safe || v.Kind == Same) && v.Witness != "" {
			t.Fatalf("P5: Audit(%.400q) tells %+v", policy, v)
		}
	}
}

func tidy(t *testing.T, input string, errno Errno, place int) {
	t.Helper()
	if errno < OK || errno > ErrRange {
		t.Fatalf("P1: %.400q: the error %d", input, errno)
	}
	if (errno == OK || errno == ErrLong) && place != 0 {
		t.Fatalf("P1: %.400q: the place %d beside %d", input, place, errno)
	}
	if place < 0 || place > len(input) {
		t.Fatalf("P1: %.400q: the place %d", input, place)
	}
	if (errno == ErrLong) != (len(input) > 400) {
		t.Fatalf("P1: %d bytes: the error %d", len(input), errno)
	}
}

func TestAlwaysAnyBytes(t *testing.T) {
	chance := rand.New(rand.NewSource(3))
	for range 20000 {
		input := make([]byte, chance.Intn(420))
		chance.Read(input)
		orderly(t, string(input), string(input))
	}
}

// Texts of the right signs in any order get further than texts of any bytes.
func TestAlwaysAnySigns(t *testing.T) {
	signs := strings.Fields(`scrub swap to none byte upper lower chain never same a b c abcdefgh abcdefghi { } ; = / " [ ] - \ \00 \ff \4 [a] [b-a] [\00-\ff] "" "abcd" "abcde" /a/ /(/ ( ) | * + ? . scrub_a{} chain_c=a; [a]to_byte;`)
	chance := rand.New(rand.NewSource(4))
	for range 60000 {
		input := ""
		for range chance.Intn(30) {
			input += strings.ReplaceAll(signs[chance.Intn(len(signs))], "_", " ") + []string{"", " ", "\n"}[chance.Intn(3)]
		}
		orderly(t, input, "ab")
	}
}

// Policies with one byte taken out, put in or changed.
func TestAlwaysMarred(t *testing.T) {
	chance := rand.New(rand.NewSource(5))
	for range 20000 {
		input := newDraft(chance).text
		if input == "" {
			continue
		}
		at := chance.Intn(len(input))
		some := string([]byte{byte(chance.Intn(256))})
		orderly(t, input[:at]+input[at+1:], "a")
		orderly(t, input[:at]+some+input[at:], "a")
		orderly(t, input[:at]+some+input[at+1:], "a")
		orderly(t, input[:at], "a")
	}
}

func TestAlwaysLong(t *testing.T) {
	begun := time.Now()
	for _, piece := range []string{"(", "[", "\"", "/", "scrub a{", "a", "\x00", " ", "((a*)*)*", "|"} {
		for _, count := range []int{399, 400, 401, 5000000} {
			orderly(t, strings.Repeat(piece, count)[:count], "")
		}
	}
	for _, expression := range []string{"(a*)*", "((((a*)*)*)*)*", "a*a*a*a*a*a*a*a*a*a*a*a*", "(a|a)*(a|.)*", ".*a.*a.*a.*a.*"} {
		if has, errno, place := Match(expression, strings.Repeat("a", 5000000)); !has || errno != OK || place != 0 {
			t.Errorf("P3: Match(%q, many letters) = %v, %d, %d", expression, has, errno, place)
		}
	}
	if has, _, _ := Match("(a|a)*(a|a)*(a|a)*b", strings.Repeat("a", 5000000)); has {
		t.Error("P3: a text without its last letter")
	}
	// Far above what it takes, far below what a search with way back would take.
	if spent := time.Since(begun); spent > 2*time.Minute {
		t.Errorf("P1: the long texts took %v", spent)
	}
}

// Texts and names of chains of all kinds and lengths.
func TestAlwaysApply(t *testing.T) {
	for _, policy := range []string{"", "x", ready, ready + "never c/a/;same c c;", "scrub a swap \"aaab\" \"\";chain c=a a a;", strings.Repeat("(", 1000000), "\xff"} {
		for _, text := range []string{"", "c", "\xff\x00", strings.Repeat("a", 1000000), strings.Repeat("aaab", 250000)} {
			orderlyApply(t, policy, text)
		}
	}
}

// Policies of all lengths, with checks and without.
func TestAlwaysAudit(t *testing.T) {
	for _, policy := range []string{"", "x", ready, ready + "never c/a/;same c c;", ready + "never c//;same c c;" + strings.Repeat(" ", 363), ready + strings.Repeat("never c/./;", 7), strings.Repeat("(", 1000000), "\xff"} {
		orderlyAudit(t, policy)
	}
}
