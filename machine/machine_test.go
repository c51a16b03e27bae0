package machine

import (
	"reflect"
	"slices"
	"strconv"
	"strings"
	"testing"

	"hindsight/api"
	"hindsight/syntax"
)

func startOf(source string, tape ...int) State {
	return Start(syntax.Read(source), tape)
}

// TestStatesStay: a run goes on from a kept state as often as one likes.
func TestStatesStay(t *testing.T) {
	s := startOf("func f(a, n) { a[0] = n; print a; return a + a; } func main() { var x = [0]; while true { var y = [x] + f(x, read()); x[0] = y[1]; print y; } }", 5, 6, 7)
	var states []State
	for ok := true; ok; {
		states = append(states, s)
		s, ok = s.Next()
	}
	var moments []api.Moment
	for _, s := range states {
		moments = append(moments, s.Moment())
	}
	for round := range 3 {
		for n, s := range states {
			if !reflect.DeepEqual(s.Moment(), moments[n]) {
				t.Fatalf("round %d: the state of moment %d has changed: %+v", round, n, s.Moment())
			}
			next, ok := s.Next()
			if ok != (n+1 < len(states)) {
				t.Fatalf("Next at moment %d of %d: %v", n, len(states), ok)
			}
			if ok && !reflect.DeepEqual(next.Moment(), moments[n+1]) {
				t.Fatalf("round %d: behind moment %d there is %+v, want %+v", round, n, next.Moment(), moments[n+1])
			}
		}
	}
}

// TestNothingIsLeftOver: where a statement begins, the one ahead of it has used
// up what was worked out for it.
func TestNothingIsLeftOver(t *testing.T) {
	s := startOf("func f(a) { len(a); return a; } func main() { var i = 0; while i < 2 && true { f([i]); read(); if len(f(\"a\")) == 1 || false { i = i + 1; } print [i, f(i)][0]; } }", 5, 6, 7)
	for ok := true; ok; {
		if len(s.frames) > 0 && len(s.top().operands) > 0 {
			t.Fatalf("at moment %d: %v", s.time, s.top().operands)
		}
		s, ok = s.Next()
	}
}

func TestNoNextBehindTheLast(t *testing.T) {
	for _, source := range []string{"func main() { }", "func main() { print 1 / 0; }", "func main() { while true { } }"} {
		s := startOf(source)
		for ok, next := true, s; ok; {
			s = next
			next, ok = s.Next()
		}
		if s.stop == api.None {
			t.Errorf("%s: the last state has no stop", source)
		}
		if next, ok := s.Next(); ok || !reflect.DeepEqual(next, State{}) {
			t.Errorf("%s: behind the last state: %+v, %v", source, next, ok)
		}
	}
}

type broken struct{}

func (broken) do(*State) { panic("broken") }

// TestOtherPanicsGoOn: only a stop is caught.
func TestOtherPanicsGoOn(t *testing.T) {
	s := startOf("func main() { print 1; }")
	s.frames[0].function.code[s.frames[0].next] = broken{}
	defer func() {
		if given := recover(); given != "broken" {
			t.Errorf("what came out: %v", given)
		}
	}()
	s.Next()
}

// TestEvalLeavesStates: what is worked out aside is not to be found in a state,
// nor in the run behind it.
func TestEvalLeavesStates(t *testing.T) {
	s := startOf("func f(a) { a[0] = len(a); return a; } func main() { var a = [7, [8]]; var b = f(a) + [a]; print b; }")
	var moments []api.Moment
	for state, ok := s, true; ok; state, ok = state.Next() {
		moments = append(moments, state.Moment())
	}
	for n, ok := 0, true; ok; n++ {
		before := s.copied()
		exprs := []string{"1 + 2", "[1, [2]] + []", "1 / 0", "true && 1 < 2 || false"}
		if slices.Contains(s.Names(), "a") {
			exprs = append(exprs, "[a, a]", "a[1]", "a + a", "len(a) + a")
		}
		for _, expr := range exprs {
			s.Eval(syntax.ReadExpr(expr))
		}
		if !reflect.DeepEqual(s, before) || !reflect.DeepEqual(s.Moment(), moments[n]) {
			t.Fatalf("moment %d has become %+v", n, s)
		}
		s, ok = s.Next()
	}
}

func TestEvalTells(t *testing.T) {
	s := startOf("func main() { var a = [7, \"é\"]; print a; }")
	s, _ = s.Next()
	for _, c := range []struct {
		expr, text string
		stop       api.Stop
	}{
		{"a", "[7, \"é\"]", api.None}, {"a[1]", "\"é\"", api.None}, {"false && a", "false", api.None}, {"true || a", "true", api.None}, {"true && true", "true", api.None},
		{"a[2]", "", api.Index}, {"a / 0", "", api.Types}, {"a[0] / 0", "", api.Zero}, {"[a, a" + strings.Repeat(", a", 60) + "]", "", api.Large},
	} {
		if text, stop := s.Eval(syntax.ReadExpr(c.expr)); text != c.text || stop != c.stop {
			t.Errorf("Eval(%s) = %q, %d, want %q, %d", c.expr, text, stop, c.text, c.stop)
		}
	}
}

// TestOtherPanicsOfEvalGoOn: a name that is not to be seen is not for Eval to
// find out, and does not pass for a stop.
func TestOtherPanicsOfEvalGoOn(t *testing.T) {
	defer func() {
		if recover() == nil {
			t.Error("nothing came out")
		}
	}()
	startOf("func main() { print 1; }").Eval(syntax.ReadExpr("unseen"))
}

func TestNamesAndDepths(t *testing.T) {
	s := startOf("func f(p, q) { if true { var r = p; } return q; } func main() { var x = 1; x = f(x, 2); }")
	want := []string{"1 ", "1 x", "2 p q", "2 p q", "2 p q", "0 "}
	for n, line := range want {
		names := s.Names()
		slices.Sort(names)
		if got := strconv.Itoa(s.Depth()) + " " + strings.Join(names, " "); got != line {
			t.Errorf("at moment %d: %q, want %q", n, got, line)
		}
		s, _ = s.Next()
	}
}

// TestLines: the line is that of the last frame, at a stop too.
func TestLines(t *testing.T) {
	s := startOf("func f(a) {\nprint\na;\nreturn 1 / a; }\nfunc main() { print 1;\nf(\n1); f(0); }")
	want := []int{5, 6, 2, 4, 7, 2, 4, 4}
	for n, line := range want {
		if got, ok := s.Line(); got != line || !ok {
			t.Errorf("at moment %d: %d, %v, want %d", n, got, ok, line)
		}
		s, _ = s.Next()
	}
	if line, ok := startOf("func main() { }").Line(); line != 0 || ok {
		t.Errorf("without a frame: %d, %v", line, ok)
	}
}
