// Package store keeps things by keys that have an order.
package store

import (
	"cmp"
	"slices"
)

// Store keeps one thing a key. Since the keys are ordered, it can also tell
// what was kept last on the way to a key that has nothing of its own.
type Store[K cmp.Ordered, V any] struct {
	entries []entry[K, V] // in the order of their keys
}

type entry[K cmp.Ordered, V any] struct {
	key  K
	kept V
}

// Keep keeps a thing, in place of one that the key had.
func (s *Store[K, V]) Keep(key K, kept V) {
	at, found := s.find(key)
	if !found {
		s.entries = slices.Insert(s.entries, at, entry[K, V]{key: key})
	}
	s.entries[at].kept = kept
}

// Latest gives the thing of the greatest key that is not above this one; false
// if there is none.
func (s *Store[K, V]) Latest(key K) (V, bool) {
	at, found := s.find(key)
	if found {
		return s.entries[at].kept, true
	}
	if at == 0 {
		var none V
		return none, false
	}
	return s.entries[at-1].kept, true
}

// find tells where the key stands, or would stand.
func (s *Store[K, V]) find(key K) (int, bool) {
	return slices.BinarySearchFunc(s.entries, key, func(e entry[K, V], key K) int {
		return cmp.Compare(e.key, key)
	})
}
