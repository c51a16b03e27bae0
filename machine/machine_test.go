package machine

import (
	"reflect"
	"testing"

	"hindsight/api"
	"hindsight/syntax"
)

func startOf(source string, tape ...int) State {
	return Start(syntax.Read(source), tape)
}

// TestStatesStay: a run goes on from a kept state as often as one likes.
func TestStatesStay(t *testing.T) {
	s := startOf("func f(a, n) { a[0] = n; print a; return a + a; } func main() { var x = [0]; while true { var y = [x] + f(x, read()); x[0] = y[1]; print y; } }", 5, 6, 7)
	var states []State
	for ok := true; ok; {
		states = append(states, s)
		s, ok = s.Next()
	}
	var moments []api.Moment
	for _, s := range states {
		moments = append(moments, s.Moment())
	}
	for round := range 3 {
		for n, s := range states {
			if !reflect.DeepEqual(s.Moment(), moments[n]) {
				t.Fatalf("round %d: the state of moment %d has changed: %+v", round, n, s.Moment())
			}
			next, ok := s.Next()
			if ok != (n+1 < len(states)) {
				t.Fatalf("Next at moment %d of %d: %v", n, len(states), ok)
			}
			if ok && !reflect.DeepEqual(next.Moment(), moments[n+1]) {
				t.Fatalf("round %d: behind moment %d there is %+v, want %+v", round, n, next.Moment(), moments[n+1])
			}
		}
	}
}

// TestNothingIsLeftOver: where a statement begins, the one ahead of it has used
// up what was worked out for it.
func TestNothingIsLeftOver(t *testing.T) {
	s := startOf("func f(a) { len(a); return a; } func main() { var i = 0; while i < 2 && true { f([i]); read(); if len(f(\"a\")) == 1 || false { i = i + 1; } print [i, f(i)][0]; } }", 5, 6, 7)
	for ok := true; ok; {
		if len(s.frames) > 0 && len(s.top().operands) > 0 {
			t.Fatalf("at moment %d: %v", s.time, s.top().operands)
		}
		s, ok = s.Next()
	}
}

func TestNoNextBehindTheLast(t *testing.T) {
	for _, source := range []string{"func main() { }", "func main() { print 1 / 0; }", "func main() { while true { } }"} {
		s := startOf(source)
		for ok, next := true, s; ok; {
			s = next
			next, ok = s.Next()
		}
		if s.stop == api.None {
			t.Errorf("%s: the last state has no stop", source)
		}
		if next, ok := s.Next(); ok || !reflect.DeepEqual(next, State{}) {
			t.Errorf("%s: behind the last state: %+v, %v", source, next, ok)
		}
	}
}

type broken struct{}

func (broken) do(*State) { panic("broken") }

// TestOtherPanicsGoOn: only a stop is caught.
func TestOtherPanicsGoOn(t *testing.T) {
	s := startOf("func main() { print 1; }")
	s.frames[0].function.code[s.frames[0].next] = broken{}
	defer func() {
		if given := recover(); given != "broken" {
			t.Errorf("what came out: %v", given)
		}
	}()
	s.Next()
}
