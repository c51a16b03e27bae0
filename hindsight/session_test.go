package hindsight_test

import (
	"math"
	"reflect"
	"slices"
	"strconv"
	"strings"
	"testing"
	"unsafe"

	"hindsight/api"
	"hindsight/hindsight"
)

// started begins a session that must have no fault.
func started(t *testing.T, source string, tape ...int) *hindsight.Session {
	t.Helper()
	s, kind, line := hindsight.Start(source, tape)
	if s == nil || kind != api.Fine || line != 0 {
		t.Fatalf("Start(%q) = %v, %d, %d", source, s, kind, line)
	}
	return s
}

// allMoments seeks one moment after the other, from 0 on.
func allMoments(t *testing.T, s *hindsight.Session) []api.Moment {
	t.Helper()
	var all []api.Moment
	for s.Seek(len(all)) {
		m := s.Now()
		if m.Time != len(all) {
			t.Fatalf("at moment %d the time is %d", len(all), m.Time)
		}
		all = append(all, m)
		if len(all) > api.MaxTime+1 {
			t.Fatalf("there are moments beyond %d", api.MaxTime)
		}
	}
	return all
}

// shown is a moment but for its time: the frames, the variables, the output,
// and the stop if there is one.
func shown(m api.Moment) string {
	var stack, vars []string
	for _, f := range m.Stack {
		stack = append(stack, f.Func+" "+strconv.Itoa(f.Line))
	}
	for _, v := range m.Vars {
		vars = append(vars, v.Name+"="+v.Value)
	}
	parts := []string{strings.Join(stack, ", "), strings.Join(vars, " "), strings.Join(m.Output, "/")}
	if m.Stop != api.None {
		parts = append(parts, stopName(m.Stop))
	}
	return strings.Join(parts, " | ")
}

func stopName(stop api.Stop) string {
	names := []string{"None", "Done", "Types", "Zero", "Index", "Depth", "Large", "Tape", "Output", "Fuel"}
	if stop < 0 || int(stop) >= len(names) {
		return "?"
	}
	return names[stop]
}

func alike(a, b api.Moment) bool {
	return a.Time == b.Time && a.Stop == b.Stop && slices.Equal(a.Stack, b.Stack) &&
		slices.Equal(a.Vars, b.Vars) && slices.Equal(a.Output, b.Output)
}

func TestStartTellsFaults(t *testing.T) {
	for _, source := range []string{
		strings.Repeat(" ", api.MaxSource+1), "\n\xff", "\n\n$", "func\nmain( {}", "", "func main(a) { }",
		in("\nx = 1;"), in("\n\nmain(1);"), in("print \"a;"), "func f() { }",
	} {
		kind, line := hindsight.Check(source)
		if kind == api.Fine {
			t.Fatalf("%q has no fault", source)
		}
		for _, tape := range [][]int{nil, {}, {1, 2}} {
			if s, k, l := hindsight.Start(source, tape); s != nil || k != kind || l != line {
				t.Errorf("Start(%.60q, %v) = %v, %d, %d, want nil, %d, %d", source, tape, s, k, l, kind, line)
			}
		}
	}
}

func TestStartIsAtMomentZero(t *testing.T) {
	s := started(t, "func main() {\n\nprint 1; }")
	if m := s.Now(); m.Time != 0 || shown(m) != "main 3 |  | " {
		t.Errorf("the first moment: %+v", m)
	}
	s = started(t, "func main() { }")
	if m := s.Now(); m.Time != 0 || shown(m) != " |  |  | Done" {
		t.Errorf("the first moment of an empty program: %+v", m)
	}
	if s.Seek(1) || !s.Seek(0) {
		t.Error("an empty program has one moment")
	}
}

func TestNowChangesNothing(t *testing.T) {
	s := started(t, example)
	for n := range 13 {
		s.Seek(n)
		if first, second := s.Now(), s.Now(); !alike(first, second) || first.Time != n {
			t.Errorf("moment %d is %+v, then %+v", n, first, second)
		}
	}
}

func TestSeekRefuses(t *testing.T) {
	s := started(t, example)
	for _, here := range []int{0, 7, 12} {
		if !s.Seek(here) {
			t.Fatalf("Seek(%d) = false", here)
		}
		before := s.Now()
		for _, n := range []int{-1, -2, -20, math.MinInt, 13, 14, 20, 40, 500, 501, 1 << 40, math.MaxInt} {
			if s.Seek(n) {
				t.Errorf("Seek(%d) = true", n)
			}
			if m := s.Now(); !alike(m, before) {
				t.Errorf("Seek(%d) was refused, but it moved from %+v to %+v", n, before, m)
			}
		}
	}
}

func TestSeekFromAnywhereToAnywhere(t *testing.T) {
	source := "func f(n) { var m = n * 2; print n; return m; } func main() { var a = []; while true { a = a + [f(len(a) + read())]; } }"
	tape := make([]int, 100)
	want := allMoments(t, started(t, source, tape...))
	if last := len(want) - 1; last < 200 {
		t.Fatalf("the last moment is %d", last)
	}
	s := started(t, source, tape...)
	d := dice(3)
	for range 2000 {
		n := d.below(len(want) + 3)
		if ok := s.Seek(n); ok != (n < len(want)) {
			t.Fatalf("Seek(%d) = %v of %d moments", n, ok, len(want))
		}
		if n >= len(want) {
			continue
		}
		if m := s.Now(); !alike(m, want[n]) {
			t.Fatalf("moment %d is %+v, want %+v", n, m, want[n])
		}
	}
	for n := len(want) - 1; n >= 0; n-- {
		if !s.Seek(n) || !alike(s.Now(), want[n]) {
			t.Fatalf("back at moment %d: %+v, want %+v", n, s.Now(), want[n])
		}
	}
}

// TestSeekAtOnce: in a new session, each moment without those ahead of it.
func TestSeekAtOnce(t *testing.T) {
	want := allMoments(t, started(t, example))
	for n := range want {
		s := started(t, example)
		if !s.Seek(n) || !alike(s.Now(), want[n]) {
			t.Errorf("moment %d is %+v, want %+v", n, s.Now(), want[n])
		}
	}
}

// TestTapeIsNotKept: the tape is read long after Start has answered.
func TestTapeIsNotKept(t *testing.T) {
	tape := []int{5, 6, 7, 8}
	s, _, _ := hindsight.Start(in("print read(); print read(); print read();"), tape[:2])
	tape[0], tape[1] = 1, 2
	all := allMoments(t, s)
	if got := shown(all[len(all)-1]); got != "main 1 |  | 5/6 | Tape" {
		t.Errorf("the last moment is %q", got)
	}
	if !slices.Equal(tape, []int{1, 2, 7, 8}) {
		t.Errorf("the tape was changed: %v", tape)
	}
}

// TestSourceIsNotKept: names and texts of the source are told long after Start
// has answered; they must not be pieces of the text that was handed in.
func TestSourceIsNotKept(t *testing.T) {
	bytes := []byte(example)
	s, _, _ := hindsight.Start(unsafe.String(&bytes[0], len(bytes)), nil)
	first := s.Now()
	for i := range bytes {
		bytes[i] = '?'
	}
	if shown(first) != "main 3 |  | " {
		t.Errorf("the first moment has become %q", shown(first))
	}
	want := allMoments(t, started(t, example))
	if got := allMoments(t, s); !reflect.DeepEqual(got, want) {
		t.Errorf("%+v, want %+v", got, want)
	}
}

func TestTapes(t *testing.T) {
	for _, c := range []struct {
		tape []int
		want string
	}{
		{nil, "Tape"}, {[]int{}, "Tape"}, {[]int{4}, "4 Tape"},
		{[]int{math.MinInt, math.MaxInt}, "-9223372036854775808 9223372036854775807 Done"},
		{[]int{0, -1, 2}, "0 -1 Done"},
	} {
		before := slices.Clone(c.tape)
		all := allMoments(t, started(t, in("print read(); print read();"), c.tape...))
		last := all[len(all)-1]
		if got := strings.Join(append(last.Output, stopName(last.Stop)), " "); got != c.want {
			t.Errorf("over %v: %q, want %q", c.tape, got, c.want)
		}
		if !slices.Equal(before, c.tape) {
			t.Errorf("the tape %v has become %v", before, c.tape)
		}
	}
}

// spoil overwrites all of a moment's memory, the spare room too.
func spoil(m api.Moment) {
	stack := m.Stack[:cap(m.Stack)]
	for i := range stack {
		stack[i] = api.Frame{Func: "spoilt", Line: -1}
	}
	vars := m.Vars[:cap(m.Vars)]
	for i := range vars {
		vars[i] = api.Var{Name: "spoilt", Value: "spoilt"}
	}
	output := m.Output[:cap(m.Output)]
	for i := range output {
		output[i] = "spoilt"
	}
}

func TestMomentsAreNewMemory(t *testing.T) {
	source := "func f(b, c) { print b; print c; return [b, c]; } func main() { var a = [read()]; while true { a[0] = f(1, \"x\"); print a; } }"
	want := allMoments(t, started(t, source, 1, 2))
	s := started(t, source, 1, 2)
	for n := range want {
		if !s.Seek(n) {
			t.Fatalf("Seek(%d) = false", n)
		}
		spoil(s.Now())
		if m := s.Now(); !alike(m, want[n]) {
			t.Fatalf("moment %d is %+v, want %+v", n, m, want[n])
		}
	}
	for n := len(want) - 1; n >= 0; n-- {
		s.Seek(n)
		if m := s.Now(); !alike(m, want[n]) {
			t.Fatalf("back at moment %d: %+v, want %+v", n, m, want[n])
		}
		spoil(s.Now())
	}
}

// TestMomentsAreLeftAlone: what was told stays so, whatever the session does.
func TestMomentsAreLeftAlone(t *testing.T) {
	s := started(t, example)
	told := allMoments(t, s)
	var before []string
	for _, m := range told {
		before = append(before, shown(m))
	}
	for n := range told {
		s.Seek(n)
		s.Now()
	}
	for n, m := range told {
		if shown(m) != before[n] {
			t.Errorf("moment %d was %q, and has become %q", n, before[n], shown(m))
		}
	}
}

// TestMomentsShareNothing: appending to one answer must not be seen in another.
func TestMomentsShareNothing(t *testing.T) {
	s := started(t, in("print 1; print 2; print 3; print 4; print 5;"))
	s.Seek(3)
	first := s.Now()
	first.Output = append(first.Output, "spoilt")
	first.Stack = append(first.Stack, api.Frame{Func: "spoilt"})
	second := s.Now()
	second.Output = append(second.Output, "other")
	if first.Output[3] != "spoilt" {
		t.Error("two answers share their spare room")
	}
	s.Seek(5)
	if got := shown(s.Now()); got != " |  | 1/2/3/4/5 | Done" {
		t.Errorf("the last moment is %q", got)
	}
}

func TestSessionsKnowNothingOfOneAnother(t *testing.T) {
	source := "func main() { var a = [read()]; print a; a[0] = read(); print a; }"
	one, two := started(t, source, 1, 2), started(t, source, 3, 4)
	other := started(t, example)
	for n := range 5 {
		one.Seek(n)
		other.Seek(12 - n)
		two.Seek(4 - n)
	}
	for _, c := range []struct {
		s    *hindsight.Session
		want string
	}{
		{one, " |  | [1]/[2] | Done"}, {two, "main 1 |  | "}, {other, "main 5 | a=[1, \"né\", 4, 6] b=[1, \"né\"] | "},
	} {
		if got := shown(c.s.Now()); got != c.want {
			t.Errorf("%q, want %q", got, c.want)
		}
	}
}

// TestSameAgain: nothing but the source and the tape tells what is answered.
func TestSameAgain(t *testing.T) {
	first := allMoments(t, started(t, example))
	for range 5 {
		if again := allMoments(t, started(t, example)); !reflect.DeepEqual(first, again) {
			t.Fatalf("%+v, then %+v", first, again)
		}
	}
}
