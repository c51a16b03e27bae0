package hindsight_test

import (
	"slices"
	"strings"
	"testing"

	"hindsight/api"
	"hindsight/hindsight"
)

type sinceCase struct {
	at   int
	expr string
	time int
	kind api.Kind
	line int
}

func expectSince(t *testing.T, s *hindsight.Session, cases []sinceCase) {
	t.Helper()
	for _, c := range cases {
		if !s.Seek(c.at) {
			t.Fatalf("there is no moment %d", c.at)
		}
		before := s.Now()
		if time, kind, line := s.Since(c.expr); time != c.time || kind != c.kind || line != c.line {
			t.Errorf("at moment %d Since(%.60q) = %d, %d, %d, want %d, %d, %d", c.at, c.expr, time, kind, line, c.time, c.kind, c.line)
		}
		if now := s.Now(); !alike(now, before) {
			t.Errorf("Since(%.60q) leads from %+v to %+v", c.expr, before, now)
		}
	}
}

func TestSinceOfDocument(t *testing.T) {
	expectSince(t, started(t, example), []sinceCase{
		{6, "len(a)", 5, 0, 0}, {6, "1", 0, 0, 0}, {6, "a[0] / 0", 5, 0, 0},
	})
}

// TestSinceChanges: x is 1 2 2 1 1 at the moments 1 to 5, y is there at 3 and 4.
func TestSinceChanges(t *testing.T) {
	s := started(t, "func main() { var x = 1; x = 2; if true { var y = x; x = 1; } x = x; }")
	if got := shown(s.Now()); got != "main 1 |  | " {
		t.Fatal(got)
	}
	expectSince(t, s, []sinceCase{
		{1, "x", 1, 0, 0}, {2, "x", 2, 0, 0}, {3, "x", 2, 0, 0}, {4, "x", 2, 0, 0}, {5, "x", 5, 0, 0},
		// What it was once does not count when it has been something else since.
		{5, "x == 1", 5, 0, 0}, {5, "x < 3", 1, 0, 0}, {4, "x < 3", 1, 0, 0}, {5, "x * 0", 1, 0, 0},
		{4, "y", 4, 0, 0}, {3, "y", 0, api.Name, 1}, {5, "\ny", 0, api.Name, 2}, {0, "x", 0, api.Name, 1}, {0, "0", 0, 0, 0}, {6, "x", 0, api.Name, 1}, {6, "7", 0, 0, 0},
		// stops: from where on it is the same one
		{5, "x[0]", 1, 0, 0}, {5, "1 / (x - 1)", 5, 0, 0}, {4, "1 / (x - 1)", 2, 0, 0}, {3, "1 / (x - 2)", 2, 0, 0}, {2, "x / 0", 1, 0, 0}, {6, "1 / 0", 0, 0, 0}, {5, "[5, 6][x]", 5, 0, 0}, {4, "[5, 6][x]", 2, 0, 0}, {1, "[5, 6][x]", 1, 0, 0},
		// a Str and what it looks like are not the same
		{5, "[[1], [\"1\"]][x - 1]", 5, 0, 0}, {4, "[\"a\", \"b\", \"b\"][x]", 1, 0, 0},
	})
}

// TestSinceStops: other stops, too, are other answers.
func TestSinceStops(t *testing.T) {
	s := started(t, "func main() { var x = 0; x = true; x = []; x = [1]; x = 0; x = 0; }")
	expectSince(t, s, []sinceCase{
		{1, "1 / x", 1, 0, 0}, {2, "1 / x", 2, 0, 0}, {3, "1 / x", 2, 0, 0}, {4, "1 / x", 2, 0, 0}, {5, "1 / x", 5, 0, 0},
		{2, "x[0]", 1, 0, 0}, {3, "x[0]", 3, 0, 0}, {4, "x[0]", 4, 0, 0}, {5, "x[0]", 5, 0, 0},
		{4, "x[0] / 0", 4, 0, 0}, {5, "x[0] / 0", 5, 0, 0}, {3, "x[0] / 0", 3, 0, 0}, {4, "len(x) < 2", 3, 0, 0}, {2, "len(x) < 2", 1, 0, 0},
	})
}

// TestSinceFrames: a call hides the variables of the one that called it, and
// may have others of the same names.
func TestSinceFrames(t *testing.T) {
	// moments: 0 and 1 main, 2 and 3 f, 4 main, 5 and 6 f, 7 main, 8 the end
	s := started(t, "func f(x) { print x; return x; } func main() { var x = 1; f(1); x = f(2); print x; }")
	expectSince(t, s, []sinceCase{
		{1, "x", 1, 0, 0}, {3, "x", 1, 0, 0}, {4, "x", 1, 0, 0}, {5, "x", 5, 0, 0}, {7, "x", 5, 0, 0}, {7, "len([x])", 1, 0, 0}, {8, "x", 0, api.Name, 1}, {8, "2", 0, 0, 0},
	})
	s = started(t, "func f(y) { print y; } func main() { var x = 1; f(1); x = x; f(2); x = x; }")
	// moments: 1 main, 2 f, 3 and 4 main, 5 f, 6 main
	expectSince(t, s, []sinceCase{{1, "x", 1, 0, 0}, {2, "x", 0, api.Name, 1}, {4, "x", 3, 0, 0}, {6, "x", 6, 0, 0}, {5, "y", 5, 0, 0}, {6, "1 / 0", 0, 0, 0}, {6, "x / 0", 6, 0, 0}})
}

func TestSinceFaults(t *testing.T) {
	long := strings.Repeat(" ", api.MaxSource)
	var cases []sinceCase
	for _, at := range []int{0, 1, 6, 12} {
		cases = append(cases,
			sinceCase{at, "", 0, api.Form, 1}, sinceCase{at, "\n", 0, api.Form, 2}, sinceCase{at, "1 1", 0, api.Form, 1}, sinceCase{at, "1\n;", 0, api.Form, 2}, sinceCase{at, "print 1;", 0, api.Form, 1}, sinceCase{at, "a = 1", 0, api.Form, 1},
			sinceCase{at, "\n\n$", 0, api.Token, 3}, sinceCase{at, "\xff", 0, api.Encoding, 1}, sinceCase{at, "1\n\n\xc3", 0, api.Encoding, 3}, sinceCase{at, "1" + long, 0, api.Long, 0}, sinceCase{at, "1" + long[1:], 0, 0, 0},
			sinceCase{at, "\nzzz", 0, api.Name, 2}, sinceCase{at, "twice(1)", 0, api.Name, 1}, sinceCase{at, "read()", 0, api.Name, 1}, sinceCase{at, "main()", 0, api.Name, 1}, sinceCase{at, "1 +\nlen()", 0, api.Count, 2}, sinceCase{at, "len(1, 2)", 0, api.Count, 1}, sinceCase{at, "1 / 0 + zzz", 0, api.Name, 1},
		)
	}
	expectSince(t, started(t, example), cases)
}

// sinceOf goes by the document's words over what Eval answers at all moments.
func sinceOf(answers []answered, at int) (int, api.Kind, int) {
	if here := answers[at]; here.kind != api.Fine {
		return 0, here.kind, here.line
	}
	time := at
	for time > 0 && answers[time-1] == answers[at] {
		time--
	}
	return time, api.Fine, 0
}

func TestSinceFromEveryMoment(t *testing.T) {
	for _, source := range callPrograms {
		s := started(t, source, 1, 2, 3, 4, 5)
		for _, expr := range []string{"1", "n", "n < 3", "i", "x", "len(a)", "a[0] / 0", "a", "b[0]", "[x]", "1 / n", "y", "1 / 0"} {
			var answers []answered
			for s.Seek(len(answers)) {
				answers = append(answers, evaluated(s, expr))
			}
			for at := range answers {
				time, kind, line := sinceOf(answers, at)
				expectSince(t, s, []sinceCase{{at, expr, time, kind, line}})
			}
		}
	}
}

// expression makes one that has a chance to come to something where these
// variables are to be seen.
func (m *maker) expression(vars []api.Var) *tree {
	m.seen, m.sorts, m.budget = nil, nil, 25
	for _, v := range vars {
		m.seen = append(m.seen, v.Name)
		switch v.Value[0] {
		case '"':
			m.sorts = append(m.sorts, "Str")
		case '[':
			m.sorts = append(m.sorts, "List")
		case 't', 'f':
			m.sorts = append(m.sorts, "Bool")
		default:
			m.sorts = append(m.sorts, "Int")
		}
	}
	switch m.below(15) {
	case 0:
		e := &tree{sort: "call", text: "len"}
		for range 2 * m.below(2) {
			e.parts = append(e.parts, m.expr("Str", 2))
		}
		return e
	case 1:
		e := &tree{sort: "list"}
		for range m.below(60) {
			e.parts = append(e.parts, m.leaf("List"))
		}
		return e
	}
	return m.expr(m.anySort(), 1+m.below(4))
}

// TestEvalAndSinceOfMadePrograms holds both to what the second way to run has
// at each moment.
func TestEvalAndSinceOfMadePrograms(t *testing.T) {
	d := dice(7)
	var values, later int
	stops, kinds := map[api.Stop]int{}, map[api.Kind]int{}
	for range 500 {
		m, routines, source := made(&d)
		second := secondRunOf(routines, []int{2, 1})
		s := started(t, source, 2, 1)
		for range 5 {
			e := m.expression(second.moments[d.below(len(second.moments))].Vars)
			text := (&writer{dice: &d}).text(e)
			var want []answered
			for n, top := range second.tops {
				want = append(want, secondEval(top, e))
				s.Seek(n)
				if got := evaluated(s, text); got != want[n] {
					t.Fatalf("%s\nat moment %d Eval(%q) = %+v, want %+v", source, n, text, got, want[n])
				}
				stops[want[n].stop]++
				kinds[want[n].kind]++
				if want[n].text != "" {
					values++
				}
			}
			for _, at := range []int{0, len(want) - 1, d.below(len(want)), d.below(len(want)), d.below(len(want))} {
				time, kind, line := sinceOf(want, at)
				expectSince(t, s, []sinceCase{{at, text, time, kind, line}})
				if time > 0 && time < at {
					later++
				}
			}
		}
	}
	t.Log(values, later, stops, kinds)
	enough := []int{values, later, stops[api.Types], stops[api.Zero], stops[api.Index], stops[api.Large], kinds[api.Name], kinds[api.Count]}
	if slices.Min(enough) < 100 {
		t.Errorf("too few answers of some kind to tell: %v", enough)
	}
}
