package scrub

import (
	"fmt"
	"math/rand"
	"strings"
	"testing"
	"time"
	"unsafe"
)

func runApply(t *testing.T, policy, chain, text, want string) {
	t.Helper()
	if got, errno, place := Apply(policy, chain, text); got != want || errno != OK || place != 0 {
		t.Errorf("P4: Apply(%q, %q, %.80q) = %.200q, %d, %d, want %.200q", policy, chain, text, got, errno, place, want)
	}
}

func allBytes() string {
	all := make([]byte, 256)
	for b := range all {
		all[b] = byte(b)
	}
	return string(all)
}

func TestApplyRules(t *testing.T) {
	for _, c := range []struct{ rules, text, want string }{
		{``, "", ""},
		{``, allBytes(), allBytes()},
		{`[\00-\ff] to none;`, allBytes(), ""},
		{`[\00-\ff] to byte;`, allBytes(), allBytes()},
		{`[\00-\ff] to upper;`, allBytes(), strings.Replace(allBytes(), "abcdefghijklmnopqrstuvwxyz", "ABCDEFGHIJKLMNOPQRSTUVWXYZ", 1)},
		{`[\00-\ff] to lower;`, allBytes(), strings.Replace(allBytes(), "ABCDEFGHIJKLMNOPQRSTUVWXYZ", "abcdefghijklmnopqrstuvwxyz", 1)},
		{`[<] to "&lt;";`, "a<b<<", "a&lt;b&lt;&lt;"},
		{`[<] to "";`, "a<b<<", "ab"},
		{`[a] to "\00" byte "\ff";`, "aba", "\x00a\xffb\x00a\xff"},
		{`[a-z] to upper lower byte; [A-Z] to lower "-" upper;`, "q7Q", "Qqq7q-Q"},
		// The first rule that has the byte, not the last one, nor all of them one behind the other.
		{`[a] to "b"; [ab] to "c"; [c] to none;`, "abc", "bc"},
		{`[a] to none; [a] to "x";`, "aba", "b"},
		{`[a-cx] to "1"; [\62-z] to "2";`, "abcdxyz", "1112122"},
		{`[\e4\f6] to "?";`, "\xe4\xc3\xb6\xf6", "?\xc3\xb6?"},
		{`[a] to "aaaa" "aaaa" "aaaa";`, "aa", strings.Repeat("a", 24)},
	} {
		runApply(t, "scrub s{"+c.rules+"}chain c=s;", "c", c.text, c.want)
	}
}

func TestApplySwaps(t *testing.T) {
	for _, c := range []struct{ from, to, text, want string }{
		{"a", "b", "", ""}, {"a", "b", "a", "b"}, {"a", "b", "aaca", "bbcb"}, {"a", "", "aba", "b"},
		{"aa", "b", "aaa", "ba"}, {"aa", "b", "aaaa", "bb"}, {"aa", "a", "aaaaa", "aaa"},
		{"aba", "x", "ababa", "xba"}, {"aba", "x", "abaaba", "xx"}, {"aba", "x", "ababaab", "xbaab"},
		{"abab", "x", "aabab", "ax"}, {"abab", "x", "abaabab", "abax"}, {"abab", "x", "ababab", "xab"},
		{"aaab", "x", "aaaaab", "aax"}, {"aaab", "x", "aaa", "aaa"}, {"aaab", "x", "aaacaaab", "aaacx"},
		// What was put is not looked at again.
		{"ab", "a", "abb", "ab"}, {"ab", "aabb", "ab", "aabb"}, {"abc", "ab", "abcc", "abc"},
		{"\\00\\ff", "\\fe", "\x00\x00\xff\xff", "\x00\xfe\xff"},
		{" \\22\\5c", "/", "  \"\\", " /"}, {"abcd", "dcba", "abcabcdabc", "abcdcbaabc"},
	} {
		runApply(t, fmt.Sprintf("scrub s swap \"%s\" \"%s\";chain c=s;", c.from, c.to), "c", c.text, c.want)
	}
}

func TestApplyChains(t *testing.T) {
	const scrubs = `scrub cut swap "<s>" ""; scrub up { [a-z] to upper; } scrub down { [A-Z] to lower; } scrub twice { [\00-\ff] to byte byte; } scrub half swap "ss" "s"; scrub drop { [!] to none; }`
	for _, c := range []struct{ chain, text, want string }{
		{"cut", "<<s>s>", "<s>"}, {"cut cut", "<<s>s>", ""}, {"cut cut cut", "<<<<s>s>s>s>", "<s>"},
		{"up", "aSs<", "ASS<"}, {"up down", "aSs<", "ass<"}, {"down up", "aSs<", "ASS<"},
		{"down cut", "<S>", ""}, {"cut down", "<S>", "<s>"}, {"drop cut", "<!s!>", ""}, {"cut drop", "<!s!>", "<s>"},
		{"twice half", "asa", "aasaa"}, {"half twice", "sss", "ssss"}, {"half half half", "ssssssss", "s"}, {"half half half", "sssssssss", "ss"},
		{"twice twice twice", "as", "aaaaaaaassssssss"},
		// What one machine holds to the end still goes through those behind it.
		{"cut up", "<s", "<S"}, {"half up half", "s", "S"}, {"cut twice half", "<s", "<<s"}, {"cut half cut", "<<s", "<<s"}, {"cut drop cut", "<s!<s>", "<s"}, {"half cut", "<ss>", ""}, {"drop cut half", "s<s!>s", "s"},
	} {
		runApply(t, scrubs+"chain c="+c.chain+";", "c", c.text, c.want)
	}
}

// Which of several chains is asked for, and that checks do not matter.
func TestApplyNames(t *testing.T) {
	const policy = `scrub a{[x]to"a";}chain ca=a;never ca/.*/;scrub b{[x]to"b";}chain cb=b;same ca cb;chain cab=a b;`
	for chain, want := range map[string]string{"ca": "a", "cb": "b", "cab": "a"} {
		runApply(t, policy, chain, "x", want)
	}
}

func TestApplyErrors(t *testing.T) {
	const policy = "scrub a{}chain c=a;chain cc=a;"
	for _, c := range []struct {
		policy, chain string
		errno         Errno
		place         int
	}{
		{policy, "", ErrName, 0}, {policy, "a", ErrName, 0}, {policy, "C", ErrName, 0}, {policy, "c ", ErrName, 0}, {policy, "ccc", ErrName, 0}, {policy, "chain", ErrName, 0}, {policy, "\x00", ErrName, 0},
		{policy, strings.Repeat("c", 1000000), ErrName, 0},
		{"", "c", ErrName, 0}, {"scrub c{}", "c", ErrName, 0},
		// The policy's error is told first, whether there is such a chain or not.
		{policy + "x", "c", ErrText, 30}, {policy + "x", "d", ErrText, 30}, {policy + "chain", "c", ErrText, 35},
		{policy + "chain d=a a a a;", "c", ErrMany, 44}, {policy + "chain c=a;", "c", ErrTwice, 36}, {policy + "chain d=b;", "c", ErrName, 38}, {policy + "chain d=b;", "e", ErrName, 38},
		{policy + "never d/a/;", "c", ErrName, 36}, {policy + "never c/[b-a]/;", "c", ErrRange, 39},
		{policy + strings.Repeat(" ", 371), "c", ErrLong, 0}, {strings.Repeat("x", 401), "d", ErrLong, 0},
	} {
		for _, text := range []string{"", "abc"} {
			if got, errno, place := Apply(c.policy, c.chain, text); got != "" || errno != c.errno || place != c.place {
				t.Errorf("P4: Apply(%.60q, %.20q, %q) = %q, %d, %d, want %d, %d", c.policy, c.chain, text, got, errno, place, c.errno, c.place)
			}
		}
	}
	runApply(t, policy+strings.Repeat(" ", 370), "c", "abc", "abc")
}

// A chain that changes nothing still answers a text of its own.
func TestApplyNewMemory(t *testing.T) {
	const policy = `scrub a{}scrub b{[\00-\ff]to byte;}scrub s swap "zz" "zz";chain c=a b s;`
	for _, text := range []string{"x", "xyz", "zz", allBytes(), strings.Repeat("xyz", 100000)} {
		made, _, _ := Apply(policy, "c", text)
		if made != text || unsafe.StringData(made) == unsafe.StringData(text) {
			t.Errorf("P1: %.20q is answered as it was handed in", text)
		}
	}
}

// plainScrub makes a scrub's text and does what it says the plain way: a whole text at a time.
func plainScrub(chance *rand.Rand) (string, func(string) string) {
	some := func(least int) string {
		text := ""
		for len(text) < least || chance.Intn(2) == 0 && len(text) < 4 {
			text += string("aabB"[chance.Intn(4)])
		}
		return text
	}
	if chance.Intn(3) > 0 {
		from, to := some(1+chance.Intn(4)), some(0)
		return "swap\"" + from + "\"\"" + to + "\";", func(text string) string { return strings.ReplaceAll(text, from, to) }
	}
	rules, instead := "{", map[string]string{}
	for range chance.Intn(4) {
		class, one, two := "abBc"[chance.Intn(4):], some(0), some(0)
		output := []string{"none", "byte", "\"" + one + "\"upper\"" + two + "\"", "lower\"" + one + "\"byte"}[chance.Intn(4)]
		rules += "[" + class + "]to " + output + ";"
		for _, b := range strings.Split(class, "") {
			if _, ok := instead[b]; ok {
				continue
			}
			switch output[0] {
			case 'n':
				instead[b] = ""
			case 'b':
				instead[b] = b
			case '"':
				instead[b] = one + strings.ToUpper(b) + two
			default:
				instead[b] = strings.ToLower(b) + one + b
			}
		}
	}
	return rules + "}", func(text string) string {
		out := ""
		for _, b := range strings.Split(text, "") {
			if put, ok := instead[b]; ok {
				b = put
			}
			out += b
		}
		return out
	}
}

func TestApplyPlainly(t *testing.T) {
	chance := rand.New(rand.NewSource(6))
	for range 20000 {
		policy, chain := "", "chain c="
		var plain []func(string) string
		for i := range 1 + chance.Intn(3) {
			text, does := plainScrub(chance)
			policy += fmt.Sprintf("scrub %c %s", 'p'+i, text)
			chain += fmt.Sprintf("%c ", 'p'+i)
			plain = append(plain, does)
		}
		for range 10 {
			text := ""
			for range chance.Intn(16) {
				text += string("aaabbBc"[chance.Intn(7)])
			}
			want := text
			for _, does := range plain {
				want = does(want)
			}
			runApply(t, policy+chain+";", "c", text, want)
		}
		if t.Failed() {
			return
		}
	}
}

func TestApplyLong(t *testing.T) {
	begun := time.Now()
	const scrubs = `scrub s swap "aaab" "b"; scrub r { [b] to "aaaa" "aaaa" "aaaa"; } scrub n { [\00-\ff] to none; }`
	const count = 2000000
	many := strings.Repeat("a", count)
	runApply(t, scrubs+"chain c=s s s;", "c", many, many)
	runApply(t, scrubs+"chain c=s s s;", "c", many+"b", many[:count-9]+"b")
	runApply(t, scrubs+"chain c=s n s;", "c", many, "")
	runApply(t, scrubs+"chain c=r;", "c", strings.Repeat("b", count), strings.Repeat("a", 12*count))
	grow := "scrub r { [b] to \"bbbb\" \"bbbb\" \"bbbb\"; } chain c=r r r;"
	runApply(t, grow, "c", strings.Repeat("b", 20000), strings.Repeat("b", 20000*1728))
	// Far above what it takes, far below what going back in the text would take.
	if spent := time.Since(begun); spent > 2*time.Minute {
		t.Errorf("P1: the long texts took %v", spent)
	}
}
