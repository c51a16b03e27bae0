package hindsight_test

import (
	"strings"
	"testing"

	"hindsight/api"
	"hindsight/hindsight"
)

// A move is one of a session's, and where it leads by the words of the
// document: from a moment of this number, among the depths of all moments.
type move struct {
	name string
	do   func(*hindsight.Session) bool
	to   func(depths []int, at int) int // -1: it answers false
}

var moves = []move{
	{"Step", (*hindsight.Session).Step, func(depths []int, at int) int {
		if at+1 == len(depths) {
			return -1
		}
		return at + 1
	}},
	{"Back", (*hindsight.Session).Back, func(depths []int, at int) int { return at - 1 }},
	{"Over", (*hindsight.Session).Over, func(depths []int, at int) int {
		for n := at + 1; n < len(depths); n++ {
			if !(depths[n] > depths[at]) || n == len(depths)-1 {
				return n
			}
		}
		return -1
	}},
	{"Out", (*hindsight.Session).Out, func(depths []int, at int) int {
		for n := at + 1; n < len(depths); n++ {
			if depths[n] < depths[at] || n == len(depths)-1 {
				return n
			}
		}
		return -1
	}},
	{"BackOver", (*hindsight.Session).BackOver, func(depths []int, at int) int {
		for n := at - 1; n >= 0; n-- {
			if !(depths[n] > depths[at]) || n == 0 {
				return n
			}
		}
		return -1
	}},
}

func depthsOf(moments []api.Moment) []int {
	var depths []int
	for _, m := range moments {
		depths = append(depths, len(m.Stack))
	}
	return depths
}

// expectMove does a move from the moment at which the session is, and gives the
// moment at which it must be then.
func expectMove(t *testing.T, s *hindsight.Session, m move, moments []api.Moment, at int) int {
	t.Helper()
	to := m.to(depthsOf(moments), at)
	ok := s.Now().Time == at && m.do(s)
	if ok != (to >= 0) {
		t.Fatalf("%s at moment %d of %d = %v", m.name, at, len(moments), ok)
	}
	if to < 0 {
		to = at
	}
	if now := s.Now(); !alike(now, moments[to]) {
		t.Fatalf("%s at moment %d leads to %+v, want %+v", m.name, at, now, moments[to])
	}
	return to
}

// stopsWithin ends in a call within a call. Its depths are
// 1 1 2 3 3 2 3 3 1 2 3 3 2 3 3 3.
const stopsWithin = `func h(x) {
  print x;
  return 1 / x; }
func g(x) {
  h(x + 1);
  return h(x); }
func main() {
  print "first";
  g(1);
  g(0);
  print "never"; }
`

// TestMovesTable: where each move leads from each moment (-1: nowhere), worked
// out by hand.
func TestMovesTable(t *testing.T) {
	for _, c := range []struct {
		source string
		want   map[string][]int
	}{
		{stopsWithin, map[string][]int{
			"Step":     {1, 2, 3, 4, 5, 6, 7, 8, 9, 10, 11, 12, 13, 14, 15, -1},
			"Back":     {-1, 0, 1, 2, 3, 4, 5, 6, 7, 8, 9, 10, 11, 12, 13, 14},
			"Over":     {1, 8, 5, 4, 5, 8, 7, 8, 15, 12, 11, 12, 15, 14, 15, -1},
			"Out":      {15, 15, 8, 5, 5, 8, 8, 8, 15, 15, 12, 12, 15, 15, 15, -1},
			"BackOver": {-1, 0, 1, 2, 3, 2, 5, 6, 1, 8, 9, 10, 9, 12, 13, 14},
		}},
		{example, map[string][]int{
			"Step":     {1, 2, 3, 4, 5, 6, 7, 8, 9, 10, 11, 12, -1},
			"Back":     {-1, 0, 1, 2, 3, 4, 5, 6, 7, 8, 9, 10, 11},
			"Over":     {1, 2, 3, 5, 5, 6, 8, 8, 9, 10, 11, 12, -1},
			"Out":      {12, 12, 12, 12, 5, 12, 12, 8, 12, 12, 12, 12, -1},
			"BackOver": {-1, 0, 1, 2, 3, 3, 5, 6, 6, 8, 9, 10, 0},
		}},
		{"func main() { }", map[string][]int{"Step": {-1}, "Back": {-1}, "Over": {-1}, "Out": {-1}, "BackOver": {-1}}},
		{"func main() { print 1; }", map[string][]int{"Step": {1, -1}, "Back": {-1, 0}, "Over": {1, -1}, "Out": {1, -1}, "BackOver": {-1, 0}}},
		// The call is the last that is done, and it does not come back.
		{"func f() { print 1; f(); } func main() { if true { f(); } }", map[string][]int{
			"Over":     {1, 32, 3, 32, 5, 32, 7, 32, 9, 32, 11, 32, 13, 32, 15, 32, 17, 32, 19, 32, 21, 32, 23, 32, 25, 32, 27, 32, 29, 32, 31, 32, -1},
			"BackOver": {-1, 0, 1, 2, 3, 4, 5, 6, 7, 8, 9, 10, 11, 12, 13, 14, 15, 16, 17, 18, 19, 20, 21, 22, 23, 24, 25, 26, 27, 28, 29, 30, 31},
		}},
	} {
		moments := allMoments(t, started(t, c.source))
		for _, m := range moves {
			for at, to := range c.want[m.name] {
				if got := m.to(depthsOf(moments), at); got != to {
					t.Fatalf("%s at moment %d should lead to %d, not to %d", m.name, at, to, got)
				}
				s := started(t, c.source)
				s.Seek(at)
				expectMove(t, s, m, moments, at)
			}
		}
	}
}

// callPrograms have calls within calls, and each way to end.
var callPrograms = []string{
	example, stopsWithin, "func main() { }", "func main() { return 1; }",
	// calls that come back: twice in a statement, in conditions, in what is handed over, as the last that is done
	"func f(n) { if 0 < n { f(n - 1); f(n - 1); } print n; } func main() { f(3); print \"x\"; f(1); }",
	"func g(x) { return x; } func f(a, b) { return g(a) + g(b); } func main() { print f(g(1), f(g(2), g(3))); while g(false) { } }",
	"func yes() { return true; } func main() { var i = 0; while yes() && i < 9 { if yes() { i = i + 1; } else { i = 0; } } yes(); }",
	"func none() { } func f() { none(); return none(); } func main() { none(); f(); f(); none(); }",
	"func main() { if read() < 4 { main(); print 1; } }",
	// those that stop within
	"func f(x) { print x; return x[1]; } func main() { f([1, 2]); f(\"ab\"); f([1]); }",
	"func f(x) { return !x; } func g(x) { return f(x); } func main() { g(true); g(1); }",
	"func f(x) { var y = x; y[0] = x; return y; } func main() { var a = [0]; while true { a = f(a + a); } }",
	"func f(n) { f(n + 1); } func main() { print 1; f(1); }",
	"func f() { return read(); } func g() { f(); return f(); } func main() { while true { print g(); } }",
	"func f(n) { print n; if n % 3 == 0 { g(n); } } func g(n) { print n; } func main() { var i = 0; while true { f(i); i = i + 1; } }",
	// and in the statement that they were called in, when they have come back
	"func f() { return true; } func g() { return 1 + f(); } func main() { f(); print g(); }",
	"func f() { return 5; } func main() { var a = [1]; a[f()] = f(); }",
	// those that go on to the last moment of all
	"func f(n) { while true { n = n + 1; } } func main() { f(0); }",
	"func f(n) { if 0 < n { f(n - 1); f(n - 1); } } func main() { f(12); }",
	"func f(n) { if 0 < n { f(n - 1); } return n; } func main() { while true { f(13); f(0); } }",
	"func main() { while true { } }",
}

func TestMovesFromEveryMoment(t *testing.T) {
	for _, source := range callPrograms {
		moments := allMoments(t, started(t, source, 1, 2, 3, 4, 5))
		s := started(t, source, 1, 2, 3, 4, 5)
		for at := range moments {
			for _, m := range moves {
				if !s.Seek(at) {
					t.Fatalf("%s\nSeek(%d) = false", source, at)
				}
				expectMove(t, s, m, moments, at)
			}
		}
	}
}

// TestMovesUntilTheEnd: each move by itself, as often as it goes, from both
// ends of a run, and once more.
func TestMovesUntilTheEnd(t *testing.T) {
	for _, source := range callPrograms {
		moments := allMoments(t, started(t, source, 1, 2, 3, 4, 5))
		for _, m := range moves {
			s := started(t, source, 1, 2, 3, 4, 5)
			for _, from := range []int{0, len(moments) - 1, len(moments) / 2} {
				s.Seek(from)
				for at, before := from, -1; at != before; {
					before, at = at, expectMove(t, s, m, moments, at)
				}
				expectMove(t, s, m, moments, s.Now().Time)
			}
		}
	}
}

// TestMovesFromTheStart: a session that has only stepped, and knows nothing of
// what is to come, goes back and over as one that has seen it all.
func TestMovesFromTheStart(t *testing.T) {
	for _, source := range callPrograms {
		moments := allMoments(t, started(t, source, 1, 2, 3, 4, 5))
		for _, steps := range []int{1, 2, 7, 19, 20, 21, 45} {
			for _, m := range moves {
				s := started(t, source, 1, 2, 3, 4, 5)
				at := 0
				for range steps {
					at = expectMove(t, s, moves[0], moments, at)
				}
				expectMove(t, s, m, moments, at)
			}
		}
	}
}

// TestMovesOfMadePrograms: wherever a session goes, and whatever it is asked on
// the way, each moment is the one that the second way to run has.
func TestMovesOfMadePrograms(t *testing.T) {
	d := dice(5)
	var deep int
	for range 400 {
		_, routines, source := made(&d)
		moments := secondRunOf(routines, []int{3, 1}).moments
		s := started(t, source, 3, 1)
		at := 0
		for range 60 {
			if len(moments[at].Stack) > 2 {
				deep++
			}
			switch d.below(12) {
			case 0:
				at = d.below(len(moments))
				s.Seek(at)
			case 1:
				s.Eval("len(a) + b")
			case 2:
				s.Since("1 + x")
			case 3:
				s.Seek(-1)
			default:
				at = expectMove(t, s, moves[d.below(len(moves))], moments, at)
			}
		}
	}
	if deep < 500 {
		t.Errorf("only %d moments were within two calls", deep)
	}
}

// TestMovesOfSessions: to move one session moves no other.
func TestMovesOfSessions(t *testing.T) {
	one, two := started(t, example), started(t, example)
	two.Seek(6)
	for one.Step() {
	}
	if at := two.Now().Time; at != 6 {
		t.Errorf("the other session is at %d", at)
	}
	for two.BackOver() {
	}
	if at := one.Now().Time; at != 12 {
		t.Errorf("the first session is at %d", at)
	}
}

// TestMovesNewMemory: what is done with a moment that was told is not to be
// found at the moments to which a session goes from there.
func TestMovesNewMemory(t *testing.T) {
	source := "func f(a, b) { print a; print b; return [a, b]; } func main() { var c = []; while len(c) < 9 { c = c + f(1, \"x\"); } }"
	moments := allMoments(t, started(t, source))
	s := started(t, source)
	for s.Step() {
		spoil(s.Now())
	}
	for n := len(moments) - 1; n >= 0; n-- {
		if now := s.Now(); !alike(now, moments[n]) {
			t.Fatalf("moment %d is %+v, want %+v", n, now, moments[n])
		}
		spoil(s.Now())
		s.Back()
	}
	if got := strings.Join(moments[len(moments)-1].Output, ""); got != strings.Repeat("1x", 5) {
		t.Errorf("the output is %q", got)
	}
}
