package search

import "slices"

// step tells how a state was met: from which one, by its number, and by which letter.
type step struct {
	from   int
	letter byte
}

// Shortest looks for a shortest text of these letters that leads from the start to a state that is wanted; if the letters ascend, it is the lowest one of them, too. Next tells the state behind a letter, or that nothing that is wanted can come then.
func Shortest[K comparable](start K, letters []byte, next func(K, byte) (K, bool), wanted func(K) bool) (string, bool) {
	if wanted(start) {
		return "", true
	}
	met := NewMet[K]()
	met.Meet(start)
	steps := []step{{}}
	for now := 0; now < met.Count(); now++ {
		for _, letter := range letters {
			state, ok := next(met.Key(now), letter)
			if !ok {
				continue
			}
			number, first := met.Meet(state)
			if !first {
				continue
			}
			steps = append(steps, step{now, letter})
			if wanted(state) {
				return way(steps, number), true
			}
		}
	}
	return "", false
}

// way gives the letters that led from the start to the state of this number.
func way(steps []step, number int) string {
	var letters []byte
	for number > 0 {
		letters = append(letters, steps[number].letter)
		number = steps[number].from
	}
	slices.Reverse(letters)
	return string(letters)
}
