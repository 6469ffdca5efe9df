package mat

import (
	"sync"

	"gesso/api"
	"gesso/rat"
)

// An entry tells one of a map's six fractions.
type entry func(m api.Mat) api.Rat

var (
	entriesOnce sync.Once
	entries     []entry
)

// makeEntries makes the list of A to F: the X and the Y of each column.
func makeEntries() {
	var list []entry
	for _, of := range []column{first, second, moved} {
		list = append(list,
			func(m api.Mat) api.Rat { return of(m).X },
			func(m api.Mat) api.Rat { return of(m).Y })
	}
	entries = list
}

// Entries are m's A to F as good fractions, gone through by the list. The
// chapter's functions do without it, so that they hang on what they are given
// alone.
func Entries(m api.Mat) []api.Rat {
	entriesOnce.Do(makeEntries)
	var all []api.Rat
	for _, of := range entries {
		// a sum is new memory, and good
		all = append(all, rat.Add(of(m), api.Rat{}))
	}
	return all
}
