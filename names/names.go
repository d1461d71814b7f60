// Package names tells which texts are names: those by which a book, a directory and a group call people.
package names

import "pawl/api"

// Is tells whether a text is one: of small letters alone, not empty and not too long.
func Is(text string) bool {
	for i := range len(text) {
		if text[i] < 'a' || text[i] > 'z' {
			return false
		}
	}
	return len(text) >= 1 && len(text) <= api.MaxName
}
