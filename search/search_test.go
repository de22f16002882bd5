package search

import "testing"

func TestMet(t *testing.T) {
	type key struct{ one, two byte }
	met := NewMet[key]()
	for i, c := range []struct {
		key    key
		number int
		first  bool
	}{{key{1, 2}, 0, true}, {key{2, 1}, 1, true}, {key{1, 2}, 0, false}, {key{}, 2, true}, {key{2, 1}, 1, false}, {key{}, 2, false}} {
		if number, first := met.Meet(c.key); number != c.number || first != c.first {
			t.Errorf("P5: %d: Meet(%v) = %d, %v", i, c.key, number, first)
		}
		if met.Key(c.number) != c.key {
			t.Errorf("P5: %d: the key of %d is %v", i, c.number, met.Key(c.number))
		}
	}
	if met.Count() != 3 {
		t.Errorf("P5: %d keys", met.Count())
	}
}

// Numbers below 100, to which a letter 0, 1, 2 or 3 is put behind.
func put(now int, letter byte) (int, bool) {
	then := now*4 + int(letter)
	return then, then < 100
}

func TestShortest(t *testing.T) {
	for _, c := range []struct {
		letters string
		wanted  func(int) bool
		text    string
		found   bool
	}{
		{"\x00\x01\x02\x03", func(n int) bool { return n == 0 }, "", true},
		{"\x00\x01\x02\x03", func(n int) bool { return n == 3 }, "\x03", true},
		{"\x00\x01\x02\x03", func(n int) bool { return n == 99 }, "\x01\x02\x00\x03", true},
		{"\x00\x01\x02\x03", func(n int) bool { return n > 15 }, "\x01\x00\x00", true},
		{"\x03\x02\x01\x00", func(n int) bool { return n > 15 }, "\x03\x03\x03", true},
		{"\x00\x01\x02\x03", func(n int) bool { return n == 5 || n == 20 }, "\x01\x01", true},
		{"\x00\x01\x02\x03", func(n int) bool { return n == 100 }, "", false},
		{"\x00\x02\x03", func(n int) bool { return n%4 == 1 }, "", false},
		{"", func(n int) bool { return n == 1 }, "", false},
	} {
		if text, found := Shortest(0, []byte(c.letters), put, c.wanted); text != c.text || found != c.found {
			t.Errorf("P5: letters %q: %q, %v, want %q, %v", c.letters, text, found, c.text, c.found)
		}
	}
}

// Each state is gone on from once, so rings come to an end.
func TestShortestRing(t *testing.T) {
	asked := 0
	next := func(now int, letter byte) (int, bool) {
		asked++
		return (now + int(letter)) % 1000, true
	}
	if text, found := Shortest(0, []byte{1, 2, 250}, next, func(n int) bool { return n < 0 }); found || text != "" || asked != 3000 {
		t.Errorf("P5: %q, %v, asked %d times", text, found, asked)
	}
	if text, _ := Shortest(0, []byte{1, 2, 250}, next, func(n int) bool { return n == 753 }); text != "\x01\x02\xfa\xfa\xfa" {
		t.Errorf("P5: %q", text)
	}
}
