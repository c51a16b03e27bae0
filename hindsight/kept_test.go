package hindsight

import (
	"testing"

	"hindsight/api"
)

// TestStatesAreKept: going back does not run from the beginning.
func TestStatesAreKept(t *testing.T) {
	s, _, _ := Start("func main() { while true { } }", nil)
	if !s.Seek(api.MaxTime) {
		t.Fatal("there is no last moment")
	}
	for time := range api.MaxTime + 1 {
		state, ok := s.kept.Latest(time)
		if !ok || state.Time() > time || time-state.Time() >= apart {
			t.Fatalf("for moment %d the state of %d is kept, %v", time, state.Time(), ok)
		}
	}
}
