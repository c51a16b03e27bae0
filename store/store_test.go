package store

import "testing"

func TestLatest(t *testing.T) {
	var s Store[int, string]
	if got, ok := s.Latest(5); ok || got != "" {
		t.Errorf("of an empty store: %q, %v", got, ok)
	}
	for _, key := range []int{20, 0, 40, -7, 30} {
		s.Keep(key, "old")
		s.Keep(key, string(rune('a'+key/10)))
	}
	for _, c := range []struct {
		key  int
		want string
		ok   bool
	}{
		{-8, "", false}, {-7, "a", true}, {-1, "a", true}, {0, "a", true}, {19, "a", true}, {20, "c", true}, {21, "c", true},
		{29, "c", true}, {30, "d", true}, {39, "d", true}, {40, "e", true}, {1 << 62, "e", true},
	} {
		if got, ok := s.Latest(c.key); got != c.want || ok != c.ok {
			t.Errorf("Latest(%d) = %q, %v, want %q, %v", c.key, got, ok, c.want, c.ok)
		}
	}
	if len(s.entries) != 5 {
		t.Errorf("%d entries for 5 keys", len(s.entries))
	}
}

// TestOtherKeys: any ordered key, any thing.
func TestOtherKeys(t *testing.T) {
	var s Store[string, []int]
	s.Keep("n", []int{2})
	s.Keep("é", []int{3})
	s.Keep("b", []int{1})
	for key, want := range map[string]int{"b": 1, "c": 1, "n": 2, "z": 2, "é": 3, "日": 3} {
		if got, ok := s.Latest(key); !ok || got[0] != want {
			t.Errorf("Latest(%q) = %v, %v, want %d", key, got, ok, want)
		}
	}
	if _, ok := s.Latest("a"); ok {
		t.Error("there is something ahead of the first key")
	}
}

func TestStoresAreApart(t *testing.T) {
	var a, b Store[float64, int]
	a.Keep(0.5, 1)
	b.Keep(0.25, 2)
	if got, ok := a.Latest(0.4); ok {
		t.Errorf("the other store's: %d", got)
	}
	if got, _ := a.Latest(0.5); got != 1 {
		t.Errorf("its own: %d", got)
	}
}
