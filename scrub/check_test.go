package scrub

import (
	"fmt"
	"math/rand"
	"strings"
	"testing"
)

type checkCase struct {
	policy string
	errno  Errno
	place  int
}

func runChecks(t *testing.T, cases []checkCase) {
	t.Helper()
	for _, c := range cases {
		if errno, place := Check(c.policy); errno != c.errno || place != c.place {
			t.Errorf("P2: Check(%q) = %d, %d, want %d, %d", c.policy, errno, place, c.errno, c.place)
		}
	}
}

// marked makes a case of a policy in which @ stands ahead of the place.
func marked(errno Errno, policy string) checkCase {
	place := max(0, strings.Index(policy, "@"))
	return checkCase{strings.Replace(policy, "@", "", 1), errno, place}
}

const ready = "scrub a{}chain c=a;"

func TestCheckGood(t *testing.T) {
	var cases []checkCase
	for _, policy := range []string{
		"", " ", "\n", " \n \n",
		"scrub a{}", "scrub a{}scrub b{}", "\nscrub\na\n{\n}\n", ready, ready + "same c c;",
		"scrub a{}scrub b swap\"x\"\"y\";chain c=a b a;chain d=b;never c/x/;same c d;",
	} {
		cases = append(cases, checkCase{policy, OK, 0})
	}
	for _, rule := range []string{
		"[a]to none;", "[a]to byte;", "[a]to upper;", "[a]to lower;", "[a]to\"\";", "[a]to\"x\"\"y\"\"z\";", "[a]to byte upper lower;",
		"[ab-z!-~]to none;", "[\\00-\\ff]to none;", "[a-a]to none;", "[\\2d\\5b\\5d\\5c]to none;", "[\\61-b]to none;", "[a-\\62]to none;",
		"[/\"{};=^.*]to none;", "[a] to \" !#~\" \"[]/;\"; ",
	} {
		cases = append(cases, checkCase{"scrub a{" + rule + "}", OK, 0})
	}
	for _, expression := range []string{
		"", "a", "|", "||", "()", "(|)", "()*", "a*b+c?", ".", ".*", "[a]", "[a-z]?", "(a)", "((a)|(b))", " ", "a b", "\\00\\ff", "\\2f", "\"", ";{}=-^$~", "a|b|c", "scrubs name",
	} {
		cases = append(cases, checkCase{ready + "never c/" + expression + "/;", OK, 0})
	}
	runChecks(t, cases)
}

// Any of the kept words is no name, wherever a name stands; longer or shorter rows are.
func TestCheckKeptWords(t *testing.T) {
	for _, word := range strings.Fields("scrub swap to none byte upper lower chain never same") {
		runChecks(t, []checkCase{
			marked(ErrText, "scrub @"+word+"{}"),
			marked(ErrText, "scrub a{}chain @"+word+"=a;"),
			marked(ErrText, "scrub a{}chain c=@"+word+";"),
			marked(ErrText, "scrub a{}chain c=a @"+word+";"),
			marked(ErrText, ready+"never @"+word+"/a/;"),
			marked(ErrText, ready+"same @"+word+" c;"),
			marked(ErrText, ready+"same c @"+word+";"),
			{"scrub " + word + "s{}", OK, 0},
			{"scrub " + word[1:] + "{}", OK, 0},
		})
	}
}

func TestCheckBrokenSigns(t *testing.T) {
	var cases []checkCase
	for _, policy := range []string{
		"@x", "@scrubs a{}", "@scru", "@{", "@;", "@\"", "@/", "@=", "@[a]", "@A", "@0", "@\t", "@\r", "@\x00", "@\x7f", "@\xff", " \n@x",
		"scrub@", "scrub @{}", "scrub @A{}", "scrub a@", "scrub a@A{}", "scrub a@0{}", "scrub a@;", "scrub a @b{}", "scrub a@=", "scrub a@\"a\"", "scrub a@\"\n", "scrub a@[", "scrub a @swaps\"a\"\"b\";",
		"scrub a{@", "scrub a{@;", "scrub a{@a", "scrub a{@\"", "scrub a{@{", "scrub a{}@;", "scrub a{}@}", "scrub a{}@\t",
		"scrub a{[a]@", "scrub a{[a]@none;}", "scrub a{[a]@tonone;}", "scrub a{[a]@;}", "scrub a{[a]@[b]to none;}",
		"scrub a{[a]to@", "scrub a{[a]to@;}", "scrub a{[a]to @x;}", "scrub a{[a]to @to;}", "scrub a{[a]to@[b];}", "scrub a{[a]to @bytes;}",
		"scrub a{[a]to none@", "scrub a{[a]to none @byte;}", "scrub a{[a]to none @none;}", "scrub a{[a]to none@\"\";}", "scrub a{[a]to none@}",
		"scrub a{[a]to byte@", "scrub a{[a]to byte @none;}", "scrub a{[a]to byte@}", "scrub a{[a]to byte@[b]to none;}", "scrub a{[a]to\"\" @x;}", "scrub a{[a]to @byteupper;}", "scrub a{[a]to byte;@;}", "scrub a{[a]to byte;@",
		"scrub a swap@", "scrub a swap@;", "scrub a swap @a\"b\";", "scrub a swap\"a\"@", "scrub a swap\"a\"@;", "scrub a swap\"a\" @none;", "scrub a swap\"a\"\"b\"@", "scrub a swap\"a\"\"b\"@\"c\";", "scrub a swap\"a\"\"b\"@}", "scrub a swap@{}",
		"chain@", "chain@=a;", "chain c@", "chain c@;", "chain c @a;", "chain c=@", "chain c=@;", "chain c=@=a;", "chain c=a@", "chain c=a@,b;", "chain c=a@=b;", "chain c=a @chain d=a;", "chain c=a;@;",
		"never@", "never@/a/;", "never c@", "never c@;", "never c @c/a/;", "never c@\"a\";", "never c/a/@", "never c/a/ @", "never c/a/@/;", "never c/a/@c;",
		"same@", "same@;", "same c@", "same c@;", "same c c@", "same c c @c;", "same c@/a/;", "same c@=c;",
	} {
		cases = append(cases, marked(ErrText, policy))
	}
	runChecks(t, cases)
}

func TestCheckBrokenWithin(t *testing.T) {
	var cases []checkCase
	for _, text := range []string{"@", "a@", "@\n\"", "a@\n", "a@\t\"", "@\x1f\"", "@\x7f\"", "@\x80\"", "\\@", "\\@\"", "\\@g0\"", "\\@A0\"", "\\0@", "\\0@\"", "\\0@F\"", "\\@ 0\"", "\\@\\\"", "\\00@", "\\000@"} {
		cases = append(cases, marked(ErrText, "scrub a{[a]to\""+text), marked(ErrText, "scrub a swap\""+text), marked(ErrText, "scrub a swap\"a\" \""+text))
	}
	for _, class := range []string{"@", "@]", "@[]", "@-a]", "@ ]", "@\n]", "a@ ]", "a@", "a@[]", "a@\x7f]", "@\x80]", "a-@", "a-@]", "a-@-]", "a-@ z]", "a-z@-]", "a-z@", "\\@", "\\@]", "\\4@]", "\\@G0]", "\\0@A]", "a-\\@]", "a-\\6@", "a-@["} {
		cases = append(cases, marked(ErrText, "scrub a{["+class), marked(ErrText, ready+"never c/["+class), marked(ErrText, ready+"never c/a([a]|["+class))
	}
	for _, expression := range []string{"@", "a@", "a;@", "@*/;", "@+/;", "@?/;", "a|@*/;", "(@*)/;", "a*@*/;", "a+@?/;", "a?@+/;", "@)/;", "a@)/;", "(a)@)/;", "(@/;", "(a@/;", "(a@", "((a)@/;", "(a|@/;", "a@]/;", "@\n/;", "a@\t/;", "@\x7f/;", "@\xff/;", "\\@/;", "\\6@/;", "\\@zz/;", "\\@A0/;", "(@", "a|@", "(()@", "()@]"} {
		cases = append(cases, marked(ErrText, ready+"never c/"+expression))
	}
	runChecks(t, cases)
}

func numbered(count int, form string) string {
	var b strings.Builder
	for i := range count {
		b.WriteString(strings.ReplaceAll(form, "#", string(rune('k'+i))))
	}
	return b.String()
}

// Each limit, and one above it.
func TestCheckLimits(t *testing.T) {
	good := func(policy string) checkCase { return checkCase{policy, OK, 0} }
	many := func(policy string) checkCase { return marked(ErrMany, policy) }
	never := func(expression string) string { return ready + "never c/" + expression + "/;" }
	runChecks(t, []checkCase{
		good(ready + strings.Repeat(" ", 400-len(ready))), {ready + strings.Repeat(" ", 401-len(ready)), ErrLong, 0},
		{strings.Repeat("x", 401), ErrLong, 0}, {strings.Repeat("x", 400), ErrText, 0}, {strings.Repeat("\xff", 1<<20), ErrLong, 0},
		good("scrub abcdefgh{}"), marked(ErrText, "scrub @abcdefghi{}"), marked(ErrText, "scrub @abcdefghi"), marked(ErrText, "scrub a{}chain @abcdefghi=a;"), marked(ErrText, "chain c=@abcdefghi;"), marked(ErrText, "chain c=a @abcdefghi;"), marked(ErrText, "never @abcdefghi/a/;"), marked(ErrText, "same c @abcdefghi;"),
		marked(ErrText, "scrub @"+strings.Repeat("z", 390)),

		good(numbered(6, "scrub #{}")), many(numbered(6, "scrub #{}") + " @scrub a{}"), many(numbered(6, "scrub #{}") + "@scrub a swap\"a\"\"b\";"), many(numbered(6, "scrub # swap\"a\"\"\";") + "@scrub a{}"),
		many(numbered(6, "scrub #{}") + "@scrub k{}"),
		good("scrub a{" + strings.Repeat("[a]to none;", 6) + "}"), many("scrub a{" + strings.Repeat("[a]to none;", 6) + " @[a]to none;}"), many("scrub a{" + strings.Repeat("[a]to none;", 6) + "@[b-a]to none;}"),
		good("scrub a{" + strings.Repeat("[a]to none;", 6) + "}scrub b{" + strings.Repeat("[a]to none;", 6) + "}"),
		good("scrub a{[a]to byte\"x\"lower;[b]to byte\"x\"lower;}"), many("scrub a{[a]to byte\"x\"lower @upper;}"), many("scrub a{[a]to\"\"\"\"\"\"@\"\";}"), many("scrub a{[a]to\"\"\"\"\"\" @byte byte;}"), many("scrub a{[a]to\"\"\"\"\"\"@\"abcde\";}"),
		good("scrub a{[a]to\"abcd\"\"abcd\"\"abcd\";}"), many("scrub a{[a]to @\"abcde\";}"), many("scrub a{[a]to\"abcd\"@\"abcde\";}"), good("scrub a{[a]to\"\\00\\01\\02\\03\";}"), many("scrub a{[a]to@\"\\00\\01\\02\\03\\04\";}"), many("scrub a{[a]to@\"     \";}"),
		good("scrub a swap\"abcd\"\"abcd\";"), good("scrub a swap\"\\00\\00\\00\\00\"\"\\ff\\ff\\ff\\ff\";"), many("scrub a swap @\"abcde\"\"\";"), many("scrub a swap\"abcd\" @\"abcde\";"), many("scrub a swap@\"\\61bcde\"\"\";"),
		good("scrub a swap\"a\"\"\";"), many("scrub a swap @\"\"\"a\";"), many("scrub a swap@\"\"\"\";"), many("scrub a swap@\"\"\"abcde\";"),
		good("scrub a{}chain c=a a a;"), many("scrub a{}chain c=a a a @a;"), many("scrub a{}chain c=a a a @a a;"), good("scrub a{}chain c=a a a;chain d=a a a;"),
		good("scrub a{}" + numbered(4, "chain #=a;")), many("scrub a{}" + numbered(4, "chain #=a;") + "@chain c=a;"), many("scrub a{}" + numbered(4, "chain #=a;") + "@chain k=x;"),
		good(ready + strings.Repeat("same c c;", 6)), good(ready + strings.Repeat("never c/a/;same c c;", 3)), many(ready + strings.Repeat("never c/a/;same c c;", 3) + "@never c/a/;"), many(ready + strings.Repeat("never c/a/;", 6) + " @same c c;"), many(ready + strings.Repeat("same c c;", 6) + "@same x y;"), many(ready + strings.Repeat("same c c;", 6) + "@never c/[b-a]/;"),

		good(never("abcdefghijkl")), many(never("abcdefghijkl@m")), good(never("............")), many(never("............@.")), good(never("[abc][abc][abc][abc][abc][abc][abc][abc][abc][abc][abc][abc]")), many(never("aaaaaaaaaaaa@[abc]")), many(never("aaaaaaaaaaaa@[c-a]")),
		good(never("a*b+c?d|e|f|g|h|i|j|k|l|")), many(never("a*b+c?d|e|f|g|h|i|j|k|l|@m*")), good(never("\\00\\01\\02\\03\\04\\05\\06\\07\\08\\09\\0a\\0b")), many(never("\\00\\01\\02\\03\\04\\05\\06\\07\\08\\09\\0a\\0b@\\0c")),
		good(never("()()()()()()()()()()()()")), many(never("()()()()()()()()()()()()@()")), good(never("(abcdefghijk)")), many(never("(abcdefghijk@l)")), many(never("(abcdefghijk)@l")), many(never("aaaaaaaaaaaa@(b)")), good(never("(((abc)def)ghi)")), many(never("(((abc)def)ghi)@k")),
		good(never("abcdefghijkl") + "never c/abcdefghijkl/;"), many(never("abcdefghijkl") + "never c/abcdefghijkl@m/;"),
		good(never("((((a))))")), many(never("((((@(a)))))")), many(never("((((@((a))))))")), many(never("((((@()))))")), many(never("()((()((@()))))")), good(never("((((a))(b)))(c)")), good(never("a|(b|(c|(d|(e))))")), many(never("a|(b|(c|(d|(e|@(f)))))")), good(never("((((a)|(b))))")),
	})
}

func TestCheckNames(t *testing.T) {
	runChecks(t, []checkCase{
		marked(ErrTwice, "scrub a{}scrub @a{}"), marked(ErrTwice, "scrub a{}scrub b{}scrub @a swap\"a\"\"b\";"), marked(ErrTwice, "scrub a{}chain @a=a;"), marked(ErrTwice, ready+"scrub @c{}"), marked(ErrTwice, ready+"chain @c=a;"), marked(ErrTwice, ready+"chain d=a;chain @c=a;"),
		{"scrub a{}scrub aa{}scrub aaa{}chain aaaa=a;", OK, 0},
		marked(ErrName, "chain c=@a;"), marked(ErrName, "chain c=@a;scrub a{}"), marked(ErrName, "scrub a{}chain c=@c;"), marked(ErrName, "scrub a{}chain c=a @b a;"), marked(ErrName, ready+"chain d=@c;"), marked(ErrName, ready+"chain d=a @c;"), marked(ErrName, ready+"chain d=@aa;"), marked(ErrName, "scrub ab{}chain c=@a;"),
		marked(ErrName, "never @c/a/;"), marked(ErrName, "scrub a{}never @a/a/;"), marked(ErrName, "scrub a{}never @c/a/;chain c=a;"), marked(ErrName, ready+"never @d/a/;"),
		marked(ErrName, "same @c c;"), marked(ErrName, ready+"same @a c;"), marked(ErrName, ready+"same c @a;"), marked(ErrName, ready+"same c @d;chain d=a;"), marked(ErrName, ready+"same @d c;"),
		{ready + "chain d=a;scrub b{}chain e=b a;same e d;never e/a/;", OK, 0},
	})
}

func TestCheckRanges(t *testing.T) {
	runChecks(t, []checkCase{
		marked(ErrRange, "scrub a{[@b-a]to none;}"), marked(ErrRange, "scrub a{[ab-c@z-y]to none;}"), marked(ErrRange, "scrub a{[@\\01-\\00]to none;}"), marked(ErrRange, "scrub a{[@\\ff-a]to none;}"), marked(ErrRange, "scrub a{[@b-\\61x]to none;}"), marked(ErrRange, "scrub a{[a]to none;[@b-ac]to none;}"),
		marked(ErrRange, ready+"never c/[@\\ff-\\fe]/;"), marked(ErrRange, ready+"never c/a(b|[a@~-!])*/;"),
		{"scrub a{[a-a\\00-\\00\\ff-\\ff\\00-\\ff\\7f-\\80]to none;}", OK, 0},
	})
}

// Which of several errors comes first.
func TestCheckFirst(t *testing.T) {
	runChecks(t, []checkCase{
		{"scrub a{[b-a]" + strings.Repeat("x", 400), ErrLong, 0},
		marked(ErrText, "scrub a{[b-a]to none;}scrub a{}@x"), marked(ErrText, "chain c=a@"), marked(ErrText, "scrub a swap\"\"\"abcde\"@"), marked(ErrText, numbered(7, "scrub #{}")+"@x"), marked(ErrText, ready+"never d/((((((a))))))@)/;"), marked(ErrText, "same x y;scrub @same{}"),
		// Of the others, the one that stands first in the text, whatever its number.
		marked(ErrRange, "scrub a{[@b-a]to\"abcde\";}scrub a{}chain c=x;"), marked(ErrMany, "scrub a{[a]to@\"abcde\";[b-a]to none;}scrub a{}"), marked(ErrTwice, "scrub a{}scrub @a{[b-a]to none;}chain c=x;scrub b swap\"\"\"\";"), marked(ErrName, "chain c=@a;scrub c swap\"\"\"\";"), marked(ErrName, "never @c/[b-a]aaaaaaaaaaaaa/;"), marked(ErrRange, ready+"never c/[@b-a]aaaaaaaaaaaaa/;same d d;"), marked(ErrMany, ready+"never c/aaaaaaaaaaaa@a[b-a]/;"), marked(ErrMany, ready+"never c/((((@([b-a])))))aaaaaaaaaaa/;"), marked(ErrMany, ready+"never c/aaaaaaaaa(((@(((a))))))/;"),
		marked(ErrTwice, "scrub a{}chain @a=x;"), marked(ErrName, ready+"chain d=@x a a a;"), marked(ErrMany, numbered(6, "scrub #{}")+"@scrub k{}"),
		// Two at one place: the one named first.
		marked(ErrMany, "scrub a{}chain c=a a a @x;"), marked(ErrMany, "scrub a{}chain c=a a a @c;"),
	})
}

// Each head of a policy either ends it well, or misses something, or breaks off a kept word.
func TestCheckHeads(t *testing.T) {
	const policy = `scrub a { [a-c\20] to none; [\00-\ff]to"x\22"byte upper;} scrub b swap "ab" "c"; chain c = a b a; never c /a|[b-c]*.+(\2f|)?/; same c c;`
	for k := range len(policy) + 1 {
		head := policy[:k]
		word := len(strings.TrimRight(head, "abcdefghijklmnopqrstuvwxyz"))
		errno, place := Check(head)
		switch {
		case errno == OK && place == 0 && (k == 0 || strings.HasSuffix(strings.TrimSpace(head), "}") || strings.HasSuffix(strings.TrimSpace(head), ";")):
		case errno == ErrText && place == k:
		case errno == ErrText && place == word && word < k:
		default:
			t.Errorf("P2: Check(%q) = %d, %d", head, errno, place)
		}
	}
}

// draft writes a policy by chance and keeps what must be found wrong with it, counting in its own way.
type draft struct {
	chance        *rand.Rand
	text          string
	starts        []int // of the signs
	errno         Errno
	place         int
	scrubs        []string
	chains        []string
	checks, bases int
}

func (d *draft) wrong(errno Errno, place int) {
	if d.errno == OK || place < d.place {
		d.errno, d.place = errno, place
	}
}

func (d *draft) sign(s string) int {
	isRow := func(b byte) bool { return 'a' <= b && b <= 'z' }
	if d.chance.Intn(6) == 0 || d.text != "" && isRow(d.text[len(d.text)-1]) && isRow(s[0]) {
		d.text += []string{" ", "\n", "  "}[d.chance.Intn(3)]
	}
	at := len(d.text)
	d.starts = append(d.starts, at)
	d.text += s
	return at
}

func (d *draft) name() string { return string(rune('p' + d.chance.Intn(9))) }

func (d *draft) has(names []string, name string) bool {
	return strings.Contains(" "+strings.Join(names, " ")+" ", " "+name+" ")
}

func (d *draft) newName() string {
	name := d.name()
	if at := d.sign(name); d.has(d.scrubs, name) || d.has(d.chains, name) {
		d.wrong(ErrTwice, at)
	}
	return name
}

func (d *draft) classBody(at int) string {
	body := "["
	for range 1 + d.chance.Intn(2) {
		first, last := d.chance.Intn(256), d.chance.Intn(256)
		if d.chance.Intn(8) > 0 && last < first {
			first, last = last, first
		}
		if last < first {
			d.wrong(ErrRange, at+len(body))
		}
		body += fmt.Sprintf("\\%02x-\\%02x", first, last)
	}
	return body + "]"
}

func (d *draft) here() int { // where the next sign stands that needs no blank
	d.text += " "
	return len(d.text)
}

func (d *draft) word(isSwap bool) {
	length := d.chance.Intn(6)
	at := d.sign("\"" + strings.Repeat("\\41", length) + "\"")
	if length > 4 || isSwap && length == 0 {
		d.wrong(ErrMany, at)
	}
}

func (d *draft) scrub() {
	if at := d.sign("scrub"); len(d.scrubs) >= 6 {
		d.wrong(ErrMany, at)
	}
	name := d.newName()
	if d.chance.Intn(2) == 0 {
		d.sign("swap")
		d.word(true)
		d.word(false)
		d.sign(";")
	} else {
		d.sign("{")
		for range d.chance.Intn(3) {
			at := d.here()
			d.starts = append(d.starts, at)
			d.text += d.classBody(at)
			d.sign("to")
			d.output()
			d.sign(";")
		}
		d.sign("}")
	}
	d.scrubs = append(d.scrubs, name)
}

func (d *draft) output() {
	if d.chance.Intn(4) == 0 {
		d.sign("none")
		return
	}
	for i := range 1 + d.chance.Intn(4) {
		if k := d.chance.Intn(4); k == 0 {
			d.word(false)
		} else {
			d.sign([]string{"", "byte", "upper", "lower"}[k])
		}
		if i >= 3 {
			d.wrong(ErrMany, d.starts[len(d.starts)-1])
		}
	}
}

func (d *draft) chain() {
	if at := d.sign("chain"); len(d.chains) >= 4 {
		d.wrong(ErrMany, at)
	}
	name := d.newName()
	d.sign("=")
	for i := range 1 + d.chance.Intn(4) {
		one := d.name()
		if len(d.scrubs) > 0 && d.chance.Intn(8) > 0 {
			one = d.scrubs[d.chance.Intn(len(d.scrubs))]
		}
		at := d.sign(one)
		if i >= 3 {
			d.wrong(ErrMany, at)
		}
		if !d.has(d.scrubs, one) {
			d.wrong(ErrName, at)
		}
	}
	d.sign(";")
	d.chains = append(d.chains, name)
}

func (d *draft) oldChain() {
	one := d.name()
	if len(d.chains) > 0 && d.chance.Intn(8) > 0 {
		one = d.chains[d.chance.Intn(len(d.chains))]
	}
	if at := d.sign(one); !d.has(d.chains, one) {
		d.wrong(ErrName, at)
	}
}

func (d *draft) check() {
	word := []string{"never", "same"}[d.chance.Intn(2)]
	if at := d.sign(word); d.checks >= 6 {
		d.wrong(ErrMany, at)
	}
	d.checks++
	d.oldChain()
	if word == "same" {
		d.oldChain()
	} else {
		d.sign("/")
		d.bases = 0
		d.expression(0)
		d.text += "/"
	}
	d.sign(";")
}

func (d *draft) expression(depth int) {
	for i := range 1 + d.chance.Intn(2) {
		if i > 0 {
			d.text += "|"
		}
		for range d.chance.Intn(4) {
			at := len(d.text)
			if d.bases++; d.bases > 12 {
				d.wrong(ErrMany, at)
			}
			switch k := d.chance.Intn(5); {
			case k == 0:
				d.text += d.classBody(at)
			case k == 1 && depth < 6:
				if depth >= 4 {
					d.wrong(ErrMany, at)
				}
				d.text += "("
				d.expression(depth + 1)
				d.text += ")"
			default:
				d.text += []string{"a", ".", "\\00", "-", " "}[k]
			}
			d.text += []string{"", "*", "+", "?"}[d.chance.Intn(4)]
		}
	}
}

func newDraft(chance *rand.Rand) *draft {
	d := &draft{chance: chance}
	for range chance.Intn(12) {
		switch chance.Intn(4) {
		case 0, 1:
			d.scrub()
		case 2:
			d.chain()
		default:
			d.check()
		}
	}
	if len(d.text) > 400 {
		d.errno, d.place = ErrLong, 0
	}
	return d
}

func TestCheckDrafts(t *testing.T) {
	chance := rand.New(rand.NewSource(1))
	met := map[Errno]int{}
	for range 60000 {
		d := newDraft(chance)
		met[d.errno]++
		runChecks(t, []checkCase{{d.text, d.errno, d.place}})
		if len(d.starts) == 0 || len(d.text) >= 400 {
			continue
		}
		// A byte that begins no sign breaks the policy off, whatever else is wrong with it.
		at := d.starts[chance.Intn(len(d.starts))]
		stray := []string{"\t", "A", "0", "\x00", "\xff", "-", "\\"}[chance.Intn(7)]
		runChecks(t, []checkCase{{d.text[:at] + stray + d.text[at:], ErrText, at}})
		if t.Failed() {
			return
		}
	}
	for errno := OK; errno <= ErrRange; errno++ {
		if errno != ErrText && met[errno] < 100 {
			t.Errorf("only %d drafts had the error %d", met[errno], errno)
		}
	}
}
