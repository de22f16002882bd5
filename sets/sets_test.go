package sets

import "testing"

type place uint8

func TestHas(t *testing.T) {
	for _, in := range []place{0, 1, 63, 64, 127, 128, 191, 192, 254, 255} {
		set := Of(in)
		for p := range 256 {
			if set.Has(place(p)) != (place(p) == in) {
				t.Errorf("Of(%d).Has(%d) = %v", in, p, set.Has(place(p)))
			}
		}
	}
}

func TestSpan(t *testing.T) {
	for _, c := range []struct{ first, last byte }{{0, 255}, {0, 0}, {255, 255}, {60, 70}, {'b', 'a'}, {255, 0}} {
		set := Span(c.first, c.last)
		for b := range 256 {
			want := int(c.first) <= b && b <= int(c.last)
			if set.Has(byte(b)) != want {
				t.Errorf("Span(%d, %d).Has(%d) = %v", c.first, c.last, b, !want)
			}
		}
	}
}

func TestWhere(t *testing.T) {
	for _, wanted := range []func(place) bool{
		func(p place) bool { return true },
		func(p place) bool { return false },
		func(p place) bool { return p%3 == 0 },
		func(p place) bool { return p == 255 },
	} {
		set := Where(wanted)
		for p := range 256 {
			if set.Has(place(p)) != wanted(place(p)) {
				t.Errorf("Where(..).Has(%d) = %v", p, set.Has(place(p)))
			}
		}
	}
}

func TestOrAnd(t *testing.T) {
	low, high := Span[byte](10, 100), Span[byte](90, 200)
	if low.Or(high) != Span[byte](10, 200) {
		t.Error("Or is not the places of either")
	}
	if low.And(high) != Span[byte](90, 100) {
		t.Error("And is not the places of both")
	}
	if low != Span[byte](10, 100) || high != Span[byte](90, 200) {
		t.Error("Or or And changed a set")
	}
}

func TestEmpty(t *testing.T) {
	if !Of[byte]().Empty() || !Span[byte](2, 1).Empty() || !Of[byte](3).And(Of[byte](200)).Empty() {
		t.Error("a set without places is not empty")
	}
	if Of[byte](0).Empty() || Of[byte](255).Empty() {
		t.Error("a set with a place is empty")
	}
}
