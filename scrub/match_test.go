package scrub

import (
	"math/rand"
	"regexp"
	"strings"
	"testing"
)

func TestMatchTexts(t *testing.T) {
	for _, c := range []struct {
		expression string
		yes, no    []string
	}{
		{"", []string{""}, []string{"a", " ", "\x00"}},
		{"()", []string{""}, []string{"a", "()"}},
		{"|", []string{""}, []string{"|"}},
		{"a", []string{"a"}, []string{"", "b", "A", "aa", "ab", "ba"}},
		{" ", []string{" "}, []string{"", "  ", "\n"}},
		{"a b", []string{"a b"}, []string{"ab", "a  b"}},
		{"^a$", []string{"^a$"}, []string{"a"}},
		{"a-c", []string{"a-c"}, []string{"b"}},
		{"\\00\\ff\\2f\\5c", []string{"\x00\xff/\\"}, []string{"", "\x00\xff/", "\\00\\ff\\2f\\5c"}},
		{".", []string{"a", "\n", "\x00", "\xff", "\x80"}, []string{"", "aa", "\u00e9"}},
		{"..", []string{"ab", "\u00e9"}, []string{"a", "abc"}},
		{"[a-c]", []string{"a", "b", "c"}, []string{"", "d", "`", "-", "aa"}},
		{"[^a]", []string{"^", "a"}, []string{"b"}},
		{"[\\80-\\ff]", []string{"\x80", "\xff"}, []string{"\x7f", "\x00"}},
		{"[\\00-\\ff]*", []string{"", "\x00\xff\n", "abc"}, nil},
		{"[a-bx-z0]+", []string{"a", "bxyz0"}, []string{"", "c", "w", "-"}},
		{"a*", []string{"", "a", "aaaaa"}, []string{"b", "aab"}},
		{"a+", []string{"a", "aaaaa"}, []string{"", "b", "aab"}},
		{"a?", []string{"", "a"}, []string{"aa", "b"}},
		{"ab*", []string{"a", "abbb"}, []string{"abab", "", "b"}},
		{"(ab)*", []string{"", "ab", "abab"}, []string{"a", "aba", "abb", "ba"}},
		{"(ab)+", []string{"ab", "abab"}, []string{"", "aba"}},
		{"(ab)?c", []string{"c", "abc"}, []string{"ac", "bc", "ababc"}},
		{"a|b", []string{"a", "b"}, []string{"", "ab"}},
		{"ab|cd", []string{"ab", "cd"}, []string{"abd", "acd", "abcd", "a"}},
		{"a(b|c)d", []string{"abd", "acd"}, []string{"ab", "cd", "ad", "abcd"}},
		{"a||b", []string{"", "a", "b"}, []string{"ab"}},
		{"(a*)*", []string{"", "a", "aa"}, []string{"b"}},
		{"(a+)+b", []string{"ab", "aaab"}, []string{"b", "aaa"}},
		{"(a?)+", []string{"", "a", "aaa"}, []string{"b"}},
		{"(a*b*)*c", []string{"c", "abbaabc"}, []string{"ab", "cc"}},
		{"(a?b?)(a?b?)", []string{"", "abab", "ba", "bb"}, []string{"bab" + "b", "bba"}},
		{"a?a?a?a?a?a?aaaaaa", []string{strings.Repeat("a", 6), strings.Repeat("a", 12)}, []string{strings.Repeat("a", 5), strings.Repeat("a", 13)}},
		{"((((a)b)c)d)", []string{"abcd"}, []string{"abc", "bcd"}},
	} {
		for i, texts := range [][]string{c.yes, c.no} {
			for _, text := range texts {
				if has, errno, place := Match(c.expression, text); has != (i == 0) || errno != OK || place != 0 {
					t.Errorf("P3: Match(%q, %q) = %v, %d, %d", c.expression, text, has, errno, place)
				}
			}
		}
	}
}

func TestMatchErrors(t *testing.T) {
	var cases []checkCase
	for _, expression := range []string{"@*", "@+", "@?", "a|@?", "a*@*", "a?@+", "@)", "a@)", "()@)", "(@", "(a@", "((a)@", "(a|@", "(@*)", "@/", "a@/", "a@/b", "@]", "a@]", "@\n", "@\t", "@\x7f", "@\xff", "\\@", "\\0@", "\\@g", "\\0@/", "\\@A0", "[@", "[@]", "[a@", "[a-@", "[a-@]", "[@-a]", "[a@ ]", "[a@[]", "[a-b@-c]", "[\\@]", "[\\0@]", "([a]@", "[b-a]@)", "aaaaaaaaaaaaaaa@)", "((((((@"} {
		cases = append(cases, marked(ErrText, expression))
	}
	for _, expression := range []string{"aaaaaaaaaaaa@a", "............@.", "aaaaaaaaaaaa@[b-a]", "aaaaaaaaaaaa@()", "(aaaaaaaaaaa@a)", "a|a|a|a|a|a|a|a|a|a|a|a|@a|a", "aaaaaaaaaaaa@a[b-a]", "((((@(a)))))", "((((@([b-a])))))", "a(b(c(d(e@(f)))))"} {
		cases = append(cases, marked(ErrMany, expression))
	}
	for _, expression := range []string{"[@b-a]", "a[a@\\01-\\00]", "([@b-a])", "[@b-a]aaaaaaaaaaaaa", "[@b-a]((((((a))))))", "[@b-a][b-a]"} {
		cases = append(cases, marked(ErrRange, expression))
	}
	cases = append(cases, checkCase{strings.Repeat("a", 400), ErrMany, 12}, checkCase{strings.Repeat("a", 401), ErrLong, 0}, checkCase{strings.Repeat("|", 400), OK, 0}, checkCase{strings.Repeat("|", 401), ErrLong, 0}, checkCase{strings.Repeat("*", 401), ErrLong, 0}, checkCase{strings.Repeat("(", 400), ErrText, 400}, checkCase{strings.Repeat("\xff", 1<<20), ErrLong, 0})
	for _, c := range cases {
		for _, text := range []string{"", "a", c.policy} {
			has, errno, place := Match(c.policy, text)
			if has && errno != OK || errno != c.errno || place != c.place {
				t.Errorf("P3: Match(%q, %.9q) = %v, %d, %d, want %d, %d", c.policy, text, has, errno, place, c.errno, c.place)
			}
		}
	}
}

// Every byte is in no class but its own, and is no other letter.
func TestMatchBytes(t *testing.T) {
	const digits = "0123456789abcdef"
	for b := range 256 {
		letter := "\\" + digits[b>>4:b>>4+1] + digits[b&15:b&15+1]
		for other := range 256 {
			text := string([]byte{byte(other)})
			for _, expression := range []string{letter, "[" + letter + "]", "[" + letter + "-" + letter + "]"} {
				if has, errno, _ := Match(expression, text); has != (b == other) || errno != OK {
					t.Fatalf("P3: Match(%q, %q) = %v, %d", expression, text, has, errno)
				}
			}
		}
		text := string([]byte{byte(b)})
		plain := 32 <= b && b <= 126 && !strings.Contains(`/|*+?()[].\`, text)
		if has, errno, _ := Match(text, text); plain && !has || !plain && b != '|' && b != '.' && errno != ErrText {
			t.Errorf("P3: Match(%q, itself) = %v, %d", text, has, errno)
		}
		inClass := 33 <= b && b <= 126 && !strings.Contains(`-[]\`, text)
		if has, errno, _ := Match("["+text+"]", text); has != inClass || (errno == OK) != inClass {
			t.Errorf("P3: Match(%q, %q) = %v, %d", "["+text+"]", text, has, errno)
		}
		inText := 32 <= b && b <= 126 && b != '"' && b != '\\'
		if errno, _ := Check("scrub a{[a]to\"" + text + "\";}"); (errno == OK) != inText {
			t.Errorf("P2: the text of %q: error %d", text, errno)
		}
	}
}

// someExpression gives an expression that the library's own expressions mean the same by.
func someExpression(chance *rand.Rand, bases *int, depth int) string {
	text := ""
	for i := range 1 + chance.Intn(2) {
		if i > 0 {
			text += "|"
		}
		for range chance.Intn(5) {
			if *bases == 0 {
				break
			}
			*bases--
			if k := chance.Intn(8); k < 5 || depth == 0 {
				text += []string{"a", "b", ".", "[a-b]", "[c]"}[k%5]
			} else {
				text += "(" + someExpression(chance, bases, depth-1) + ")"
			}
			text += []string{"", "", "*", "+", "?"}[chance.Intn(5)]
		}
	}
	return text
}

func TestMatchLikeLibrary(t *testing.T) {
	chance := rand.New(rand.NewSource(2))
	for range 4000 {
		bases := 12
		expression := someExpression(chance, &bases, 4)
		library := regexp.MustCompile(`(?s)\A(?:` + expression + `)\z`)
		for range 40 {
			text := ""
			for range chance.Intn(8) {
				text += string("abcd"[chance.Intn(4)])
			}
			if has, errno, place := Match(expression, text); has != library.MatchString(text) || errno != OK || place != 0 {
				t.Fatalf("P3: Match(%q, %q) = %v, %d, %d", expression, text, has, errno, place)
			}
		}
	}
}
