package scrub

import (
	"fmt"
	"math/rand"
	"regexp"
	"strings"
	"testing"
	"time"

	"scrub/grammar"
	"scrub/pattern"
)

// told writes verdicts down: the kind, a colon, the witness.
func told(verdicts []Verdict) string {
	text := ""
	for _, v := range verdicts {
		text += fmt.Sprintf("%d:%s ", v.Kind, v.Witness)
	}
	return text
}

func runAudit(t *testing.T, policy, want string) {
	t.Helper()
	verdicts, errno, place := Audit(policy)
	if got := told(verdicts); got != want || errno != OK || place != 0 {
		t.Errorf("P5: Audit(%q) = %q, %d, %d, want %q", policy, got, errno, place, want)
	}
}

func TestAuditNever(t *testing.T) {
	for _, c := range []struct{ scrubs, chain, expression, want string }{
		// What comes out may be the empty text, and may be one that came from nothing.
		{`scrub s{}`, "s", ``, "2: "},
		{`scrub s{}`, "s", `a?`, "2: "},
		{`scrub s{}`, "s", `abc`, "2:abc "},
		{`scrub s{}`, "s", `a+b|cd`, "2:ab "},
		{`scrub s{}`, "s", `aaa|b`, "2:b "},
		{`scrub s{[\00-\ff]to none;}`, "s", `.+`, "1: "},
		{`scrub s{[\00-\ff]to none;}`, "s", `.*`, "2: "},
		{`scrub s{[\00-\fe]to none;}`, "s", `.+`, "2:\xff "},
		{`scrub s{[\00-\7f\81-\ff]to none;}`, "s", `\80\80`, "2:\x80\x80 "},
		{`scrub s{[\00-\ff]to "x";}`, "s", `[\00-wy-\ff]+`, "1: "},
		// How many come out.
		{`scrub s{[\00-\ff]to byte byte;}`, "s", `.(..)*`, "1: "},
		{`scrub s{[\00-\ff]to byte byte;}`, "s", `aabb(cc)+`, "2:abc "},
		{`scrub s{[a-z]to "abc";}`, "s", `.*cb.*`, "1: "},
		// What a swap lets through, and what only its second text makes.
		{`scrub s swap "ab" "c";`, "s", `.*ab.*`, "1: "},
		{`scrub s swap "ab" "b";`, "s", `.*ab.*`, "2:aab "},
		{`scrub s swap "ab" "a";`, "s", `.*ab.*`, "2:abb "},
		{`scrub s swap "abc" "";`, "s", `.*abc.*`, "2:aabcbc "},
		{`scrub s swap "abc" "";`, "s s", `.*abc.*`, "2:aaabcbcbc "},
		{`scrub s swap "abc" "";`, "s s s", `.*abc.*`, "2:aaaabcbcbcbc "},
		{`scrub s swap "abcd" "";`, "s s s", `abcd`, "2:aaaabcdbcdbcdbcd "},
		{`scrub s swap "aa" "a";`, "s", `a`, "2:a "},
		{`scrub s swap "aa" "a";`, "s", `aaa`, "2:aaaaa "},
		{`scrub s swap "aa" "a";`, "s s s", `aa`, "2:aaaaaaaaa "},
		{`scrub s swap "aa" "";`, "s", `.*aa.*`, "1: "},
		{`scrub s swap "aa" "";`, "s", `.*a.*a.*`, "2:a\x00a "},
		// What is held where the text ends comes out, too.
		{`scrub s swap "abcd" "x";`, "s", `abc`, "2:abc "},
		{`scrub s swap "abcd" "x";scrub u{[a-z]to upper;}`, "s u", `ABC`, "2:ABC "},
		{`scrub d{[A-Z]to none;}scrub s swap "abcd" "x";scrub u{[a-z]to upper;}`, "d s u", `ABC`, "2:abc "},
		{`scrub d{[A-Z]to none;}scrub s swap "abcd" "x";scrub u{[a-z]to upper;}`, "d s u", `ABCD`, "1: "},
		// Bytes that only one scrub, or only the expression, tells from their neighbours.
		{`scrub d{[x]to none;}scrub s swap "q" "x";`, "d s", `x`, "2:q "},
		{`scrub d{[a-z]to none;}scrub l{[A-Z]to lower;}`, "d l", `f`, "2:F "},
		{`scrub d{[a-z]to none;}scrub l{[A-Z]to lower;}`, "l d", `f`, "1: "},
		{`scrub d{[a-z!]to none;}scrub l{[A-Z]to lower;}scrub x{[q]to "!";}`, "d l x", `!!`, "2:QQ "},
		{`scrub d{[A-Z]to none;}scrub u{[\00-\ff]to upper;}`, "d u", `F`, "2:f "},
	} {
		runAudit(t, c.scrubs+"chain c="+c.chain+";never c/"+c.expression+"/;", c.want)
	}
}

func TestAuditSame(t *testing.T) {
	for _, c := range []struct{ scrubs, one, two, want string }{
		{`scrub s{}scrub r{}`, "s", "r", "3: "},
		{`scrub s{}scrub r{[\00-\ff]to byte;}`, "s", "r", "3: "},
		{`scrub s{}scrub r{[\00-\fe]to byte;[\ff]to none;}`, "s", "r", "4:\xff "},
		{`scrub s{}scrub r{[a]to "";}`, "s", "r", "4:a "},
		{`scrub s{[a]to none;}scrub r swap "a" "";`, "s", "r", "3: "},
		{`scrub s{[a]to "bb";}scrub r swap "a" "bb";`, "s", "r r", "3: "},
		{`scrub s{[a-z]to upper;}scrub r{[A-Z]to lower;}`, "s r", "r", "3: "},
		{`scrub s{[a-z]to upper;}scrub r{[A-Z]to lower;}`, "s r", "r s", "4:A "},
		// One's output is ahead of the other's, and yet it is the same in the end.
		{`scrub s{}scrub r swap "abcd" "abcd";`, "s", "r", "3: "},
		{`scrub s{}scrub r swap "abcd" "abce";`, "s", "r", "4:abcd "},
		{`scrub s swap "abcd" "abcd";scrub r swap "ab" "ab";`, "s r", "r s", "3: "},
		{`scrub s swap "aab" "aab";scrub r swap "ab" "c";`, "r", "s r", "3: "},
		{`scrub s swap "aab" "aabb";scrub r swap "ab" "c";`, "r", "s r", "4:aab "},
		{`scrub a swap "a" "aa";scrub h swap "aa" "a";scrub n{}`, "a h", "n", "3: "},
		{`scrub a swap "a" "aa";scrub h swap "aa" "a";scrub n{}`, "h a", "n", "4:a "},
		{`scrub a swap "aa" "aaa";scrub n{}`, "a", "n", "4:aa "},
		// Never less than the whole way to where they part.
		{`scrub s swap "ab" "";`, "s", "s s", "4:aabb "},
		{`scrub s swap "ab" "";`, "s s", "s s s", "4:aaabbb "},
		{`scrub s swap "abcd" "";`, "s s", "s s s", "4:aaabcdbcdbcd "},
		{`scrub s swap "aaaa" "a";`, "s", "s s", "4:aaaaaaa "},
		{`scrub s swap "ab" "ba";`, "s s", "s s s", "4:aaab "},
		// Bytes that came in and look like such as were put in.
		{`scrub s{[q-z]to "q";}scrub r{}`, "s", "r", "4:r "},
		{`scrub s{[q-y]to "z";}scrub r swap "z" "q";`, "s r", "r", "4:r "},
		{`scrub s{[Q-Z5-9]to "q";}scrub t{[5-9]to "q";}scrub u{[a-z]to upper;}`, "s u", "t u", "4:R "},
		{`scrub s{[@-Z]to lower;}scrub r{}`, "s", "r", "4:A "},
		{"scrub s{[`-z]to upper;}scrub r{}", "s", "r", "4:a "},
		{"scrub s{[`-z]to lower upper;}scrub r{[`-z]to byte upper;}", "s", "r", "3: "},
		{"scrub s{[`-z]to lower upper;}scrub r{[`-z]to upper lower;}", "s", "r", "4:a "},
		{`scrub s{[A-Z]to upper lower;}scrub r{[A-Z]to byte lower;}`, "s", "r", "3: "},
	} {
		runAudit(t, c.scrubs+"chain c="+c.one+";chain d="+c.two+";same c d;same d c;same c c;same d d;", c.want+c.want+"3: 3: ")
	}
}

// A verdict for each check, in their order, of the chains that it names.
func TestAuditOrder(t *testing.T) {
	for _, c := range []struct{ policy, want string }{
		{"", ""}, {ready, ""}, {"scrub a{}", ""},
		{`scrub a{[x]to"a";}chain ca=a;never ca/.*x.*/;scrub b{[x]to"b";}chain cb=b;same ca cb;never cb/bbb/;chain cc=a b;same ca cc;never cc/x/;never ca/a/;`, "1: 4:x 2:bbb 3: 1: 2:a "},
		{`scrub a{[x]to"a";}chain ca=a;never ca/b/;scrub b{[x]to"b";}chain cb=b a;same cb ca;never cb/aaa/;never ca//;never cb/x?x/;same ca ca;`, "2:b 4:x 2:aaa 2: 1: 3: "},
	} {
		runAudit(t, c.policy, c.want)
	}
}

func TestAuditErrors(t *testing.T) {
	const policy = "scrub a{}chain c=a;never c/.*/;same c c;"
	for _, c := range []checkCase{
		marked(ErrText, policy+"@x"), marked(ErrText, policy+"never@"), marked(ErrText, policy+"never c/(@/;"), marked(ErrText, policy+"same c@;"), marked(ErrText, "@/"),
		marked(ErrMany, policy+"never c/aaaaaaaaaaaa@a/;"), marked(ErrMany, policy+"same c c;same c c;same c c;same c c;@same c c;"),
		marked(ErrTwice, policy+"chain @c=a;"), marked(ErrName, policy+"never @d/a/;"), marked(ErrName, policy+"same c @a;"), marked(ErrName, "never @c/a/;"+ready), marked(ErrRange, policy+"never c/[@b-a]/;"),
		{policy + strings.Repeat(" ", 361), ErrLong, 0}, {strings.Repeat("x", 401), ErrLong, 0}, {strings.Repeat("x", 5000000), ErrLong, 0},
	} {
		if verdicts, errno, place := Audit(c.policy); verdicts != nil || errno != c.errno || place != c.place {
			t.Errorf("P5: Audit(%.60q) = %v, %d, %d, want %d, %d", c.policy, verdicts, errno, place, c.errno, c.place)
		}
	}
	runAudit(t, policy+strings.Repeat(" ", 360), "2: 3: ")
}

// What one call answered is not changed by what is done with another's answer.
func TestAuditNewMemory(t *testing.T) {
	const policy = "scrub a{}chain c=a;never c/abc/;same c c;"
	one, _, _ := Audit(policy)
	two, _, _ := Audit(policy)
	one[0], one[1] = Verdict{}, Verdict{}
	if told(two) != "2:abc 3: " {
		t.Errorf("P1: %s", told(two))
	}
	runAudit(t, policy, "2:abc 3: ")
}

// texts gives all texts of some letters up to a length, shorter ones first.
func texts(letters string, most int) []string {
	all := []string{""}
	for begun, length := 0, 0; length < most; length++ {
		ended := len(all)
		for ; begun < ended; begun++ {
			for i := range len(letters) {
				all = append(all, all[begun]+letters[i:i+1])
			}
		}
	}
	return all
}

// held fails unless a verdict goes with which of the texts, shorter ones first, are bad.
func held(t *testing.T, policy string, v Verdict, good int, texts []string, bad func(string) bool) {
	t.Helper()
	if v.Kind == good && v.Witness != "" || v.Kind != good && v.Kind != good+1 {
		t.Fatalf("P5: %q: %+v", policy, v)
	}
	if v.Kind != good && !bad(v.Witness) {
		t.Fatalf("P5: %q: %+v, but it is none", policy, v)
	}
	for _, text := range texts {
		if v.Kind != good && len(text) >= len(v.Witness) {
			return
		}
		if bad(text) {
			t.Fatalf("P5: %q: %+v, but %q", policy, v, text)
		}
	}
}

// plainChain makes a chain's text, that of its scrubs ahead of it, and does what it says the plain way.
func plainChain(chance *rand.Rand, name string, scrubs string) (string, func(string) string) {
	policy, chain := "", "chain "+name+"="
	var plain []func(string) string
	for i := range 1 + chance.Intn(len(scrubs)) {
		text, does := plainScrub(chance)
		policy += fmt.Sprintf("scrub %c %s", scrubs[i], text)
		chain += fmt.Sprintf("%c ", scrubs[i])
		plain = append(plain, does)
	}
	return policy + chain + ";", func(text string) string {
		for _, does := range plain {
			text = does(text)
		}
		return text
	}
}

// Verdicts held against all texts of few letters, with chains done the plain way and the library's expressions.
func TestAuditPlainly(t *testing.T) {
	chance := rand.New(rand.NewSource(7))
	broad, deep := texts("aAbBcd", 4), texts("ab", 9)
	for round := range 6000 {
		one, makesOne := plainChain(chance, "c", "pqr"[:1+round%3])
		two, makesTwo := plainChain(chance, "d", "uvw"[:1+round%2])
		bases, others := 5, 3
		expression, other := someExpression(chance, &bases, 2), ".*"+someExpression(chance, &others, 0)+".*"
		if strings.Contains(other, "|") {
			other = "(" + other + ")"
		}
		policy := one + two + "never c/" + expression + "/;never d/" + other + "/;same c d;"
		verdicts, errno, _ := Audit(policy)
		if errno != OK || len(verdicts) != 3 {
			t.Fatalf("P5: Audit(%q) = %v, %d", policy, verdicts, errno)
		}
		library, otherLibrary := regexp.MustCompile(`(?s)\A(?:`+expression+`)\z`), regexp.MustCompile(`(?s)\A(?:`+other+`)\z`)
		for _, texts := range [][]string{broad, deep} {
			held(t, policy, verdicts[0], Safe, texts, func(text string) bool { return library.MatchString(makesOne(text)) })
			held(t, policy, verdicts[1], Safe, texts, func(text string) bool { return otherLibrary.MatchString(makesTwo(text)) })
			held(t, policy, verdicts[2], Same, texts, func(text string) bool { return makesOne(text) != makesTwo(text) })
		}
	}
}

// Chains of near relatives, which part late or never.
func TestAuditRelatives(t *testing.T) {
	chance := rand.New(rand.NewSource(8))
	deep := texts("ab", 10)
	some := func(least, most int) string {
		text := ""
		for range least + chance.Intn(most-least+1) {
			text += string("ab"[chance.Intn(2)])
		}
		return text
	}
	for range 800 {
		policy, word := "", some(2, 4)
		for _, name := range []string{"p", "q"} {
			policy += fmt.Sprintf("scrub %s swap \"%s\"\"%s\";", name, word, some(0, 4))
			word = some(1, 4)
		}
		chains := strings.Split("p;p p;p q;q p;p q p;q p q;p p p;q q;p p q", ";")
		policy += "chain c=" + chains[chance.Intn(9)] + ";chain d=" + chains[chance.Intn(9)] + ";never c/.*" + word + ".*/;same c d;"
		verdicts, _, _ := Audit(policy)
		held(t, policy, verdicts[0], Safe, deep, func(text string) bool {
			made, _, _ := Apply(policy, "c", text)
			return strings.Contains(made, word)
		})
		held(t, policy, verdicts[1], Same, deep, func(text string) bool {
			one, _, _ := Apply(policy, "c", text)
			two, _, _ := Apply(policy, "d", text)
			return one != two
		})
	}
}

// Every byte, in policies that have their own say on many of them.
func TestAuditBytes(t *testing.T) {
	short := texts(allBytes(), 1)
	for _, scrubs := range []string{
		`scrub s{[\00-\1f]to none;[\80-\ff]to "?";}scrub r{[\00-\7f]to upper;}`,
		`scrub s{[A-z]to lower;}scrub r swap "a" "\e1";`,
		`scrub s{[<]to "&lt;";[>]to "&gt;";[&]to "&amp";}scrub r swap "&" "";`,
		`scrub s swap "\00" "\ff";scrub r swap "\ff" "\00";`,
	} {
		for b := range 256 {
			policy := scrubs + fmt.Sprintf(`chain c=s r;chain d=r s;never c/\%02x/;never d/[\00-\%02x]/;same c d;`, b, b)
			verdicts, errno, _ := Audit(policy)
			if errno != OK {
				t.Fatalf("P5: Audit(%q): %d", policy, errno)
			}
			made := func(chain, text string) string {
				made, _, _ := Apply(policy, chain, text)
				return made
			}
			held(t, policy, verdicts[0], Safe, short, func(text string) bool { return made("c", text) == string([]byte{byte(b)}) })
			held(t, policy, verdicts[1], Safe, short, func(text string) bool { return len(made("d", text)) == 1 && int(made("d", text)[0]) <= b })
			held(t, policy, verdicts[2], Same, short, func(text string) bool { return made("c", text) != made("d", text) })
		}
	}
}

// Policies of all kinds: what Audit tells is what Apply and the expression tell.
func TestAuditDrafts(t *testing.T) {
	chance := rand.New(rand.NewSource(9))
	short := texts("apqA\x00", 3)
	audited := 0
	for range 40000 {
		text := newDraft(chance).text
		if policy, _ := grammar.Read(text); len(policy.Chains) > 0 {
			one, two := policy.Chains[0].Name, policy.Chains[len(policy.Chains)-1].Name
			text += fmt.Sprintf("never %s/.*[a-cp]+./;same %s %s;", two, one, two)
		}
		policy, fault := grammar.Read(text)
		if fault.Kind != grammar.None || len(policy.Checks) == 0 {
			continue
		}
		audited++
		verdicts, errno, place := Audit(text)
		if errno != OK || place != 0 || len(verdicts) != len(policy.Checks) {
			t.Fatalf("P5: Audit(%q) = %v, %d, %d", text, verdicts, errno, place)
		}
		for i, check := range policy.Checks {
			made := func(number int, from string) string {
				made, _, _ := Apply(text, policy.Chains[check.Chains[number]].Name, from)
				return made
			}
			if check.Kind == grammar.Same {
				held(t, text, verdicts[i], Same, short, func(from string) bool { return made(0, from) != made(1, from) })
				continue
			}
			forbidden := pattern.New(check.Expression)
			held(t, text, verdicts[i], Safe, short, func(from string) bool { return forbidden.Has(made(0, from)) })
		}
	}
	if audited < 300 {
		t.Errorf("P5: only %d drafts had anything to decide", audited)
	}
}

// Policies that have much to look at, and checks whose shortest texts are long.
func TestAuditHeavy(t *testing.T) {
	begun := time.Now()
	three := `scrub a swap "abcd" "mm";scrub b swap "efgh" "mm";scrub d swap "zyxw" "m";chain c=a b d;`
	runAudit(t, three+`never c/.*[ae]......zyxw/;never c/.*[bf]......zyxw/;never c/(.*z.....)*zyxw/;never c/((.*z.)*.*a.)*zyxw/;never c/.*[zxefab]......zyxw/;`, "1: 1: 1: 1: 1: ")
	runAudit(t, `scrub z{[z]to none;}scrub a swap "abcd" "";scrub b swap "efgh" "";chain c=z a b;never c/.*[ei].........z/;never c/.*[ai].........z/;never c/.*[el].........z/;never c/.*[ad].........z/;never c/.*[ij].........z/;never c/.*[a-k].........z/;`, "1: 1: 1: 1: 1: 1: ")
	grow := `scrub a{[a]to "aaaa""aaaa""aaaa";[b]to "abaa""abaa""bbaa";[c]to "abac""aaba""caaa";[ze]to "abec""eaba""ceaa";}chain c=a a a;`
	runAudit(t, grow+`never c/.*a.........z/;never c/.*[abcd].........z/;never c/.*[ad].........z/;never c/.*[ac].........z/;never c/.*b.........z/;`, "1: 1: 1: 1: 1: ")
	six := `scrub a swap "abcd" "abcd";scrub b swap "efgh" "efgh";scrub d swap "ijkl" "ijkl";scrub e swap "mnop" "mnop";scrub f swap "qrst" "qrst";scrub g swap "uvwx" "uvwx";chain c=a b d;chain h=e f g;`
	runAudit(t, six+"same c h;same h c;same c h;same h c;same h c;same h c;", "3: 3: 3: 3: 3: 3: ")
	runAudit(t, `scrub h swap "aaaa" "a";chain c=h h h;never c/aaaaa/;never c/aaaaaa/;`, "2:"+strings.Repeat("a", 131)+" 2:"+strings.Repeat("a", 195)+" ")
	runAudit(t, `scrub s{}chain c=s;never c/.*[ab].........z/;`, "2:a"+strings.Repeat("\x00", 9)+"z ")
	// Far above what it takes, far below what going through the texts one by one would take.
	if spent := time.Since(begun); spent > 2*time.Minute {
		t.Errorf("P1: the heavy policies took %v", spent)
	}
}
