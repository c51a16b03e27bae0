package hindsight

import (
	"testing"

	"hindsight/api"
)

// TestStatesAreKept: going back does not run from the beginning.
func TestStatesAreKept(t *testing.T) {
	s, _, _ := Start("func main() { while true { } }", nil)
	if !s.Seek(api.MaxTime) {
		t.Fatal("there is no last moment")
	}
	expectKept(t, s)
}

func expectKept(t *testing.T, s *Session) {
	t.Helper()
	for time := range s.now.Time() + 1 {
		state, ok := s.kept.Latest(time)
		if !ok || state.Time() > time || time-state.Time() >= apart {
			t.Fatalf("for moment %d the state of %d is kept, %v", time, state.Time(), ok)
		}
	}
}

// TestMovesKeep: however a session goes on, it keeps what it passes.
func TestMovesKeep(t *testing.T) {
	for _, move := range []func(*Session) bool{(*Session).Step, (*Session).Over, (*Session).Out, (*Session).Go} {
		s, _, _ := Start("func f(n) { while 0 < n { n = n - 1; } } func main() { while true { f(30); } }", nil)
		s.Break(1, "n == 17")
		for moved := 0; move(s); moved++ {
			if moved > api.MaxTime {
				t.Fatalf("at %d it does not go on", s.now.Time())
			}
		}
		if s.now.Time() != api.MaxTime {
			t.Fatalf("the last moment is %d", s.now.Time())
		}
		expectKept(t, s)
	}
}

// TestEarlierStates: every state ahead, the latest first, each once.
func TestEarlierStates(t *testing.T) {
	s, _, _ := Start("func main() { while true { } }", nil)
	for _, from := range []int{0, 1, apart - 1, apart, apart + 1, 3*apart + 7, api.MaxTime} {
		s.Seek(from)
		time := from
		for state := range s.earlier() {
			time--
			if state.Time() != time {
				t.Fatalf("from %d: the state of %d, want %d", from, state.Time(), time)
			}
		}
		if time != 0 {
			t.Errorf("from %d it goes back to %d", from, time)
		}
	}
}
