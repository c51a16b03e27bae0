package hindsight_test

import (
	"maps"
	"math"
	"slices"
	"strings"
	"testing"
	"unsafe"

	"hindsight/api"
	"hindsight/hindsight"
)

// points are breakpoints: the when of each line that has one.
type points map[int]string

func (p points) set(t *testing.T, s *hindsight.Session) {
	t.Helper()
	for _, line := range slices.Sorted(maps.Keys(p)) {
		expectBreak(t, s, line, p[line], api.Fine, 0)
	}
}

func expectBreak(t *testing.T, s *hindsight.Session, line int, when string, kind api.Kind, at int) {
	t.Helper()
	before := s.Now()
	if k, l := s.Break(line, when); k != kind || l != at {
		t.Errorf("Break(%d, %.120q) = %d, %d, want %d, %d", line, when, k, l, kind, at)
	}
	if now := s.Now(); !alike(now, before) {
		t.Errorf("Break(%d, %.120q) leads from %+v to %+v", line, when, before, now)
	}
}

func expectClear(t *testing.T, s *hindsight.Session, line int, want bool) {
	t.Helper()
	before := s.Now()
	if there := s.Clear(line); there != want {
		t.Errorf("Clear(%d) = %v", line, there)
	}
	if now := s.Now(); !alike(now, before) {
		t.Errorf("Clear(%d) leads from %+v to %+v", line, before, now)
	}
}

// breakFault tells what of Eval's fault Break must find.
func breakFault(text string, a answered) (api.Kind, int) {
	switch a.kind {
	case api.Long, api.Encoding, api.Token, api.Form:
		if text != "" {
			return a.kind, a.line
		}
	}
	return api.Fine, 0
}

// hitsAt goes by the document's words; answer is what Eval of when tells.
func (p points) hitsAt(m api.Moment, answer func(when string) answered) bool {
	if len(m.Stack) == 0 {
		return false
	}
	when, ok := p[m.Stack[len(m.Stack)-1].Line]
	return ok && (when == "" || answer(when) == value("true"))
}

// hitsIn tells of every moment whether it hits.
func (p points) hitsIn(s *hindsight.Session) []bool {
	var hits []bool
	for s.Seek(len(hits)) {
		hits = append(hits, p.hitsAt(s.Now(), func(when string) answered { return evaluated(s, when) }))
	}
	return hits
}

// goMoves are Go and GoBack, where these moments hit.
func goMoves(hits []bool) []move {
	return []move{
		{"Go", (*hindsight.Session).Go, func(_ []int, at int) int {
			for n := at + 1; n < len(hits); n++ {
				if hits[n] || n == len(hits)-1 {
					return n
				}
			}
			return -1
		}},
		{"GoBack", (*hindsight.Session).GoBack, func(_ []int, at int) int {
			for n := at - 1; n >= 0; n-- {
				if hits[n] || n == 0 {
					return n
				}
			}
			return -1
		}},
	}
}

// expectGoes goes on and back from each of these moments.
func expectGoes(t *testing.T, s *hindsight.Session, moments []api.Moment, hits []bool, from []int) {
	t.Helper()
	for _, at := range from {
		for _, m := range goMoves(hits) {
			if !s.Seek(at) {
				t.Fatalf("Seek(%d) = false", at)
			}
			expectMove(t, s, m, moments, at)
		}
	}
}

// numbersBelow are those from 0 on, each that many behind the one ahead of it,
// and the last.
func numbersBelow(end, apart int) []int {
	var numbers []int
	for n := 0; n < end-1; n += apart {
		numbers = append(numbers, n)
	}
	return append(numbers, end-1)
}

type hitCase struct {
	points points
	hits   []int
}

// expectHits holds Go and GoBack, from every moment, to the moments that hit.
func expectHits(t *testing.T, source string, cases []hitCase) {
	t.Helper()
	moments := allMoments(t, started(t, source))
	for _, c := range cases {
		hits := make([]bool, len(moments))
		for _, n := range c.hits {
			hits[n] = true
		}
		if got := c.points.hitsIn(started(t, source)); !slices.Equal(got, hits) {
			t.Fatalf("%s\nwith %v these should hit: %v, not %v", source, c.points, c.hits, got)
		}
		s := started(t, source)
		c.points.set(t, s)
		expectGoes(t, s, moments, hits, numbersBelow(len(moments), 1))
		for at := range moments {
			s := started(t, source)
			s.Seek(at)
			c.points.set(t, s)
			expectGoes(t, s, moments, hits, []int{at})
		}
	}
}

func TestBreakOfDocument(t *testing.T) {
	s := started(t, example)
	expectBreak(t, s, 1, "x == 3", api.Fine, 0)
	for _, c := range []struct {
		do func(*hindsight.Session) bool
		to int
		ok bool
	}{
		{(*hindsight.Session).GoBack, 0, false}, {(*hindsight.Session).Go, 7, true}, {(*hindsight.Session).Go, 12, true}, {(*hindsight.Session).Go, 12, false}, {(*hindsight.Session).GoBack, 7, true}, {(*hindsight.Session).GoBack, 0, true},
	} {
		if ok := c.do(s); ok != c.ok || s.Now().Time != c.to {
			t.Fatalf("%v, at %d, want %v, %d", ok, s.Now().Time, c.ok, c.to)
		}
	}
}

// TestHits: which moments hit, worked out by hand.
func TestHits(t *testing.T) {
	expectHits(t, example, []hitCase{
		{points{}, nil}, {points{1: ""}, []int{4, 7}}, {points{1: "x == 3"}, []int{7}}, {points{3: ""}, []int{0}}, {points{8: ""}, []int{11}}, {points{7: "", 8: "", 3: ""}, []int{0, 10, 11}},
		// not where the line is that of a frame below the last
		{points{5: ""}, []int{2, 3, 5, 6, 8}}, {points{1: "x == 2", 5: ""}, []int{2, 3, 4, 5, 6, 8}}, {points{5: "len(a) == 3"}, []int{5, 6}}, {points{5: "a == b"}, []int{2, 3}}, {points{5: "len(a) < 4", 6: "b[0] == 1", 7: "b[0] == 1"}, []int{2, 3, 5, 6, 9}},
		// variables that are not to be seen there, or not yet
		{points{1: "len(a) == 2"}, nil}, {points{5: "x == 2"}, nil}, {points{3: "a == a"}, nil}, {points{4: "b == b", 5: "true || b == a"}, []int{2, 3, 5, 6, 8}}, {points{4: "a[1][1] == \"é\""}, []int{1}},
		// each line has its own
		{points{3: "false", 4: "true", 6: "", 7: "false"}, []int{1, 9}}, {points{1: "x == 2", 5: "len(a) == 4"}, []int{4, 8}},
	})
	// the last moment has a frame, on line 3
	expectHits(t, stopsWithin, []hitCase{
		{points{}, nil}, {points{2: ""}, []int{3, 6, 10, 13}}, {points{3: ""}, []int{4, 7, 11, 14, 15}}, {points{8: ""}, []int{0}}, {points{9: "", 10: ""}, []int{1, 8}}, {points{5: "x == 0"}, []int{9}}, {points{2: "x == 1", 3: "x == 2"}, []int{4, 6, 10}},
		{points{3: "1 / x == 1"}, []int{7, 11}}, {points{3: "x == 0"}, []int{14, 15}}, {points{6: "x == 1", 10: "x == 1"}, []int{5}}, {points{11: ""}, nil}, {points{8: "", 2: "", 3: "", 5: "", 6: "", 9: "", 10: ""}, []int{0, 1, 2, 3, 4, 5, 6, 7, 8, 9, 10, 11, 12, 13, 14, 15}},
	})
	expectHits(t, "func main() { }", []hitCase{{points{}, nil}, {points{0: "", 1: ""}, nil}, {points{1: "true"}, nil}})
	expectHits(t, "func main() { print 1; }", []hitCase{{points{}, nil}, {points{0: "", 1: ""}, []int{0}}, {points{1: "1 == 2"}, nil}})
	expectHits(t, "func main() { print 1 / 0; }", []hitCase{{points{}, nil}, {points{1: ""}, []int{0, 1}}})
}

// TestLinesThatHit: a statement's line is that of its first token, and no other
// number is the same.
func TestLinesThatHit(t *testing.T) {
	source := "\nfunc f(a) {\n\n  print\n    a;\n}\n// nothing\nfunc main() {\n  f(\n    1); f(2);\n  if true\n  { print 3; } else {\n    print 4; }\n}\n"
	cases := []hitCase{
		{points{9: ""}, []int{0}}, {points{4: ""}, []int{1, 3}}, {points{10: ""}, []int{2}}, {points{11: ""}, []int{4}}, {points{12: ""}, []int{5}}, {points{4: "", 9: "", 10: "", 11: "", 12: ""}, []int{0, 1, 2, 3, 4, 5}},
	}
	none := points{}
	for _, line := range []int{1, 2, 3, 5, 6, 7, 8, 13, 14, 15, 16, 0, -1, -4, -9, 9 + 1<<8, 9 + 1<<16, 9 + 1<<32, math.MinInt, math.MinInt + 9, math.MaxInt, math.MaxInt - 4} {
		cases = append(cases, hitCase{points{line: ""}, nil}, hitCase{points{line: "true", 4: ""}, []int{1, 3}})
		none[line] = ""
	}
	expectHits(t, source, append(cases, hitCase{none, nil}))
	s := started(t, source)
	none.set(t, s)
	for line := range none {
		expectClear(t, s, line, true)
		expectClear(t, s, line, false)
	}
}

// TestConditions: x is, from moment 1 on, true, false, "true", 1, [true], 0 and
// true again.
func TestConditions(t *testing.T) {
	const source = "func main() { var x = true; x = false; x = \"true\"; x = 1; x = [true]; x = 0; x = true; x = x; }"
	all := []int{0, 1, 2, 3, 4, 5, 6, 7}
	var cases []hitCase
	for _, c := range []struct {
		when string
		hits []int
	}{
		{"", all}, {"true", all}, {" true\n", all}, {"// x\n(true) // y", all}, {"1 == 1", all}, {"!false && true", all}, {"\"true\" == \"true\"", all},
		{"x", []int{1, 7}}, {"x == true", []int{1, 7}}, {"x != false && x", []int{1, 7}}, {"!x", []int{2}}, {"x == \"true\"", []int{3}}, {"x != x", nil},
		// no Bools
		{"\"true\"", nil}, {"1", nil}, {"0", nil}, {"[]", nil}, {"[true]", nil}, {"\"\"", nil}, {"\"tr\" + \"ue\"", nil}, {"false", nil},
		// stops at some moments, and at all
		{"x[0]", []int{5}}, {"1 / x == 1", []int{4}}, {"len(x) == 1", []int{5}}, {"len(x) < 9", []int{3, 5}}, {"x < 1", []int{6}}, {"x && x", []int{1, 7}}, {"x || true", []int{1, 2, 7}}, {"true || 1 / x == 1", []int{1, 2, 3, 4, 5, 6, 7}}, {"1 / 0 == 1", nil}, {"x && 1", nil}, {row(200) + " != 0", nil}, {"[true][1]", nil}, {"-true", nil},
		// names that are not to be seen at some moments, and at all
		{"true || x", []int{1, 2, 3, 4, 5, 6, 7}}, {"true || y", nil}, {"y", nil}, {"tru", nil}, {"len", nil}, {"read() == 0", nil}, {"true || main() == 0", nil}, {"x(1) == 1", nil},
		// counts, behind a name that is to be seen at some moments or ahead of it
		{"true || len() == 0", nil}, {"true || len(1, 2) == 0", nil}, {"true || x == len()", nil}, {"true || len(x, x) == 0", nil},
	} {
		cases = append(cases, hitCase{points{1: c.when}, c.hits})
	}
	expectHits(t, source, cases)
}

// TestBreakTakesThePlace: of one that was there, whatever it was.
func TestBreakTakesThePlace(t *testing.T) {
	moments := allMoments(t, started(t, example))
	whens := []string{"", "x == 2", "x == 3", "false", "x", "len()", "y == 1"}
	for _, first := range whens {
		for _, second := range whens {
			s := started(t, example)
			points{1: first, 7: ""}.set(t, s)
			points{1: second}.set(t, s)
			expectGoes(t, s, moments, points{1: second, 7: ""}.hitsIn(started(t, example)), numbersBelow(13, 1))
			expectClear(t, s, 1, true)
			expectClear(t, s, 1, false)
			expectGoes(t, s, moments, points{7: ""}.hitsIn(started(t, example)), numbersBelow(13, 1))
			points{1: first}.set(t, s)
			expectGoes(t, s, moments, points{1: first, 7: ""}.hitsIn(started(t, example)), numbersBelow(13, 1))
		}
	}
}

// TestBreakFaults: a text with a fault sets nothing, and leaves what was there.
func TestBreakFaults(t *testing.T) {
	moments := allMoments(t, started(t, example))
	long := strings.Repeat(" ", api.MaxSource)
	for text, want := range map[string]answered{
		" ": faulty(api.Form, 1), "\n": faulty(api.Form, 2), "//": faulty(api.Form, 1), "x ==\n": faulty(api.Form, 2), "x\n== 3 == 3": faulty(api.Form, 2), "x = 3": faulty(api.Form, 1), "(x == 3": faulty(api.Form, 1), "y 1": faulty(api.Form, 1), "len()\n;": faulty(api.Form, 2), "true true": faulty(api.Form, 1),
		"x == 3;": faulty(api.Form, 1), "\nprint x;": faulty(api.Form, 2), "var y = x;": faulty(api.Form, 1), "if x == 3 { }": faulty(api.Form, 1), "return true;": faulty(api.Form, 1), "twice(3);": faulty(api.Form, 1), "while true { }": faulty(api.Form, 1), example: faulty(api.Form, 1), "{ }": faulty(api.Form, 1),
		"$": faulty(api.Token, 1), "x == 3\n&": faulty(api.Token, 2), "\n\n\"true": faulty(api.Token, 3), "9223372036854775808 == x": faulty(api.Token, 1), "é": faulty(api.Token, 1), "1 1\n$": faulty(api.Token, 2),
		"\xff": faulty(api.Encoding, 1), "true\n//\xc3": faulty(api.Encoding, 2), "$\n1 1\n\"\xed\xa0\x80\"": faulty(api.Encoding, 3),
		long + " ": faulty(api.Long, 0), "true" + long: faulty(api.Long, 0), "\xff$ 1 1" + long: faulty(api.Long, 0), strings.Repeat("\n", 3000000): faulty(api.Long, 0), long: faulty(api.Form, 1),
	} {
		for _, before := range []points{{}, {1: ""}, {1: "x == 3"}, {1: "x == 2", 5: "len(a) == 4"}} {
			s := started(t, example)
			before.set(t, s)
			s.Seek(6)
			expectBreak(t, s, 1, text, want.kind, want.line)
			expectBreak(t, s, 40, text, want.kind, want.line)
			expectGoes(t, s, moments, before.hitsIn(started(t, example)), numbersBelow(13, 1))
			_, there := before[1]
			expectClear(t, s, 1, there)
			expectClear(t, s, 40, false)
		}
	}
}

func TestBreakFormAgainstRules(t *testing.T) {
	s := started(t, sample)
	expectForms(t, "expr", 8, 60, func(text string) (api.Kind, int) {
		if text == "" {
			return api.Form, 1
		}
		kind, line := s.Break(1, text)
		if there := s.Clear(1); there != (kind == api.Fine) {
			t.Fatalf("Break(1, %q) = %d, %d, then there is a breakpoint: %v", text, kind, line, there)
		}
		return kind, line
	})
}

func TestClear(t *testing.T) {
	s := started(t, example)
	for _, line := range []int{1, 5, 0, -5, 100, math.MinInt, math.MaxInt} {
		expectClear(t, s, line, false)
	}
	points{1: "", 5: "x", -5: "", 100: "true", math.MinInt: "", 0: ""}.set(t, s)
	for _, line := range []int{2, 4, 6, -1, 5 + 1<<32, 99, math.MaxInt} {
		expectClear(t, s, line, false)
	}
	for _, line := range []int{0, -5, math.MinInt, 100, 5, 1} {
		expectClear(t, s, line, true)
		expectClear(t, s, line, false)
	}
	if s.Go(); s.Now().Time != 12 {
		t.Errorf("Go leads to %d", s.Now().Time)
	}
	// One that is set again is there again, wherever the session is.
	points{1: ""}.set(t, s)
	if s.GoBack(); s.Now().Time != 7 {
		t.Errorf("GoBack leads to %d", s.Now().Time)
	}
	expectClear(t, s, 1, true)
	if s.GoBack(); s.Now().Time != 0 {
		t.Errorf("GoBack leads to %d", s.Now().Time)
	}
}

// TestBreakpointsOfSessions: each session has its own.
func TestBreakpointsOfSessions(t *testing.T) {
	moments := allMoments(t, started(t, example))
	sets := []points{{1: "x == 3", 7: ""}, {1: "x == 2"}, {}, {5: "", 8: "len(b) == 2"}}
	var sessions []*hindsight.Session
	for range sets {
		sessions = append(sessions, started(t, example))
	}
	for i, p := range sets {
		p.set(t, sessions[i])
	}
	for i, p := range sets {
		expectGoes(t, sessions[i], moments, p.hitsIn(started(t, example)), numbersBelow(13, 1))
	}
	for line := range 10 {
		_, there := sets[0][line]
		expectClear(t, sessions[0], line, there)
	}
	for i, p := range sets {
		if i > 0 {
			expectGoes(t, sessions[i], moments, p.hitsIn(started(t, example)), numbersBelow(13, 1))
		}
	}
	expectGoes(t, sessions[0], moments, make([]bool, 13), numbersBelow(13, 1))
}

// TestBreakTextIsNotKept: the text is asked for long after Break has answered.
func TestBreakTextIsNotKept(t *testing.T) {
	moments := allMoments(t, started(t, example))
	for _, when := range []string{"x == 3", "a[1] + \"!\" == \"né!\" || x == 2", "len(\"abc\") == x", "5 - 3 == x", "\"x\" < \"y\" && [x] == [2]", "$ x", "x x"} {
		bytes := []byte(when)
		s := started(t, example)
		kind, _ := s.Break(1, unsafe.String(&bytes[0], len(bytes)))
		if string(bytes) != when {
			t.Errorf("the text %q has become %q", when, bytes)
		}
		for i := range bytes {
			bytes[i] = '7'
		}
		p := points{}
		if kind == api.Fine {
			p[1] = when
		}
		expectGoes(t, s, moments, p.hitsIn(started(t, example)), numbersBelow(13, 1))
	}
}

// TestGoFromManyMoments: programs of every way to end, with conditions that
// come and go; in long ones from some 50 moments all over the run, since each
// move asks at many others.
func TestGoFromManyMoments(t *testing.T) {
	for _, source := range callPrograms {
		moments := allMoments(t, started(t, source, 1, 2, 3, 4, 5))
		from := numbersBelow(len(moments), 1+len(moments)/50)
		for _, when := range []string{"", "n == 1", "!(n == 1)", "n % 3 == 0", "i == 4", "!(i == 4)", "len(a) == 2", "x == 1 || x", "true || n", "a[0] == 0"} {
			s := started(t, source, 1, 2, 3, 4, 5)
			p := points{1: when, 3: "x == 0"}
			hits := p.hitsIn(s)
			p.set(t, s)
			expectGoes(t, s, moments, hits, from)
		}
	}
}

// TestGoUntilTheEnd: Go passes all the moments that hit, and GoBack those ahead
// of the last, in their order.
func TestGoUntilTheEnd(t *testing.T) {
	for _, source := range callPrograms {
		moments := allMoments(t, started(t, source, 1, 2, 3, 4, 5))
		p := points{1: "0 < n", 2: "", 5: "len(a) == 3"}
		hits := p.hitsIn(started(t, source, 1, 2, 3, 4, 5))
		s := started(t, source, 1, 2, 3, 4, 5)
		p.set(t, s)
		at := 0
		for _, m := range goMoves(hits) {
			for before := -1; at != before; {
				before, at = at, expectMove(t, s, m, moments, at)
			}
		}
		if at != 0 {
			t.Errorf("%s\nGoBack ends at %d", source, at)
		}
	}
}

// TestConditionsOfFullSize: texts that use up their bytes for one thing, over
// a run in which i is 20 at the moments 42 and 43.
func TestConditionsOfFullSize(t *testing.T) {
	const source = "func main() { var l = [true, \"é\"]; var i = 0; while i < 40 { i = i + 1; } }"
	fill := func(opening, middle, closing string) string { return nested(opening, middle, closing, api.MaxSource) }
	moments := allMoments(t, started(t, source))
	for when, first := range map[string]int{
		fill("(", "i == 20", ")"): 42, fill("!!", "(i == 20)", ""): 42, fill("l==l&&", "i == 20", ""): 42, fill("", "i == 0", "+1-1"): 2, fill("", "l[0]", "\n"): 1, fill("", "l[1]==\"é\"", "[0]"): 1, fill("\n", "l[0]", ""): 1,
		// no Bool, a stop, a fault
		fill("", "i", "-1"): 83, fill("len([", "i", "])"): 83, fill("i!=20||", "l", ""): 2, fill("[", "i", "]"): 83, fill("l[", "0", "]"): 83, fill("", "l", "+l"): 83, fill("true||", "y", ""): 83, fill("true||", "len()", ""): 83,
	} {
		s := started(t, source)
		p := points{1: when}
		p.set(t, s)
		if !s.Go() || s.Now().Time != first {
			t.Errorf("with %.40q.. Go leads to %d, want %d", when, s.Now().Time, first)
		}
		expectGoes(t, s, moments, p.hitsIn(s), []int{0, 44, 83})
		expectBreak(t, s, 1, when+" ", api.Long, 0)
		expectClear(t, s, 1, true)
	}
}

// condition makes an expression that has a chance to be true where these
// variables are to be seen.
func (m *maker) condition(vars []api.Var) *tree {
	e := m.expression(vars)
	if m.below(4) > 0 {
		return m.expr("Bool", 1+m.below(4))
	}
	return e
}

// TestGoOfMadePrograms: wherever a session goes, with whatever breakpoints, the
// moments that hit are those by the second way to run.
func TestGoOfMadePrograms(t *testing.T) {
	d := dice(9)
	var between, refused int
	for range 500 {
		m, routines, source := made(&d)
		second := secondRunOf(routines, []int{2, 1})
		moments := second.moments
		s := started(t, source, 2, 1)
		p, conditions := points{}, map[string]*tree{}
		at := 0
		for range 40 {
			some := moments[d.below(len(moments))]
			line := d.below(2 + strings.Count(source, "\n"))
			if len(some.Stack) > 0 && d.below(4) > 0 {
				line = some.Stack[len(some.Stack)-1].Line
			}
			switch d.below(10) {
			case 0:
				at = d.below(len(moments))
				s.Seek(at)
			case 1:
				p[line] = ""
				expectBreak(t, s, line, "", api.Fine, 0)
			case 2, 3, 4:
				e := m.condition(some.Vars)
				text := (&writer{dice: &d}).text(e)
				if len(text) > api.MaxSource {
					continue
				}
				p[line], conditions[text] = text, e
				expectBreak(t, s, line, text, api.Fine, 0)
			case 5:
				_, there := p[line]
				expectClear(t, s, line, there)
				delete(p, line)
			default:
				var hits []bool
				for n, moment := range moments {
					hits = append(hits, p.hitsAt(moment, func(when string) answered { return secondEval(second.tops[n], conditions[when]) }))
				}
				to := expectMove(t, s, goMoves(hits)[d.below(2)], moments, at)
				if to == at {
					refused++
				} else if to > 0 && to < len(moments)-1 {
					between++
				}
				at = to
			}
		}
	}
	t.Log(between, refused)
	if between < 500 || refused < 500 {
		t.Errorf("only %d moves led to a moment that hits, and %d nowhere", between, refused)
	}
}
