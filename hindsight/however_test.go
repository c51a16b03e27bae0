package hindsight_test

import (
	"fmt"
	"maps"
	"math"
	"slices"
	"strconv"
	"strings"
	"testing"

	"hindsight/api"
	"hindsight/hindsight"
)

// A call is one of a session's calls with what it is handed; it tells all that
// was answered.
type call struct {
	name string
	do   func(*hindsight.Session) string
}

func callOf[T any](name string, do func(*hindsight.Session) T) call {
	return call{name, func(s *hindsight.Session) string { return fmt.Sprintf("%+v", do(s)) }}
}

func seekCall(time int) call {
	return callOf(fmt.Sprintf("Seek(%d)", time), func(s *hindsight.Session) bool { return s.Seek(time) })
}

func evalCall(expr string) call {
	return callOf(fmt.Sprintf("Eval(%.60q)", expr), func(s *hindsight.Session) answered { return evaluated(s, expr) })
}

func sinceCall(expr string) call {
	return callOf(fmt.Sprintf("Since(%.60q)", expr), func(s *hindsight.Session) [3]int {
		time, kind, line := s.Since(expr)
		return [3]int{time, int(kind), line}
	})
}

func breakCall(line int, when string) call {
	return callOf(fmt.Sprintf("Break(%d, %.60q)", line, when), func(s *hindsight.Session) [2]int {
		kind, at := s.Break(line, when)
		return [2]int{int(kind), at}
	})
}

func clearCall(line int) call {
	return callOf(fmt.Sprintf("Clear(%d)", line), func(s *hindsight.Session) bool { return s.Clear(line) })
}

// journey is a session that goes anywhere, and what another needs to be brought
// where it is.
type journey struct {
	*testing.T
	*dice
	source  string
	tape    []int
	count   int // of the moments
	lines   []int
	exprs   []string
	session *hindsight.Session
	points  points
	counts  map[string]int
}

// brought is a new session with the same breakpoints, at the same moment.
func (j *journey) brought() *hindsight.Session {
	s := started(j.T, j.source, j.tape...)
	j.points.set(j.T, s)
	if time := j.session.Now().Time; !s.Seek(time) {
		j.Fatalf("%s\nthere is no moment %d", j.source, time)
	}
	return s
}

// same does a call in both sessions: the answers must be the same, and so must
// be the moments behind it.
func (j *journey) same(c call) string {
	other := j.brought()
	here := j.session.Now()
	answer := c.do(j.session)
	if want := c.do(other); answer != want {
		j.Fatalf("%s\nwith %v at %+v %s = %s, in a session that Seek has brought there %s", j.source, j.points, here, c.name, answer, want)
	}
	now, want := j.session.Now(), other.Now()
	if !alike(now, want) {
		j.Fatalf("%s\nwith %v at %+v %s leads to %+v, in a session that Seek has brought there to %+v", j.source, j.points, here, c.name, now, want)
	}
	if answer == "false" && !alike(now, here) {
		j.Fatalf("%s\nat %+v %s = false, and leads to %+v", j.source, here, c.name, now)
	}
	j.counts[strings.Split(c.name, "(")[0]+" "+strconv.FormatBool(alike(now, here))]++
	return answer
}

func pick[T any](d *dice, from []T) T { return from[d.below(len(from))] }

func (j *journey) goOn() {
	line, expr := pick(j.dice, j.lines), pick(j.dice, j.exprs)
	switch j.below(17) {
	case 0:
		j.same(seekCall(j.below(j.count+2) - 1))
	case 1:
		j.same(seekCall(pick(j.dice, []int{-1, j.count, api.MaxTime + 1, math.MaxInt, math.MinInt})))
	case 2:
		j.same(evalCall(expr))
	case 3:
		j.same(sinceCall(expr))
	case 4, 5:
		if j.same(breakCall(line, expr)) == "[0 0]" {
			j.points[line] = expr
		}
	case 6:
		_, there := j.points[line]
		if answer := j.same(clearCall(line)); answer != strconv.FormatBool(there) {
			j.Fatalf("%s\nwith %v Clear(%d) = %s", j.source, j.points, line, answer)
		}
		delete(j.points, line)
	case 7:
		j.same(callOf("Now", (*hindsight.Session).Now))
		spoil(j.session.Now())
	default:
		m := pick(j.dice, append(goMoves(nil), moves...))
		j.same(callOf(m.name, m.do))
	}
}

// travel goes anywhere, and then looks at all there is at one moment more.
func (j *journey) travel(calls int) {
	j.session, j.points = started(j.T, j.source, j.tape...), points{}
	for range calls {
		j.goOn()
	}
	for _, expr := range j.exprs {
		j.same(evalCall(expr))
		j.same(sinceCall(expr))
	}
	for _, line := range slices.Sorted(maps.Keys(j.points)) {
		j.same(clearCall(line))
		delete(j.points, line)
	}
}

func (j *journey) enough(t *testing.T) {
	t.Log(j.counts)
	for _, name := range []string{"Seek", "Step", "Back", "Over", "Out", "BackOver", "Go", "GoBack"} {
		if j.counts[name+" false"] < 100 || j.counts[name+" true"] < 20 {
			t.Errorf("too few calls of %s to tell: %v", name, j.counts)
		}
	}
	for _, name := range []string{"Eval", "Since", "Break", "Clear", "Now"} {
		if j.counts[name+" false"] > 0 || j.counts[name+" true"] < 100 {
			t.Errorf("calls of %s that moved, or too few: %v", name, j.counts)
		}
	}
}

// TestHowever: however a session came to a moment, all calls answer there what
// they answer in one that Seek has brought there (P11).
func TestHowever(t *testing.T) {
	d := dice(10)
	j := &journey{T: t, dice: &d, tape: []int{1, 2, 3, 4, 5}, counts: map[string]int{}}
	j.lines = []int{1, 1, 1, 2, 3, 5, 6, 9, 10, 0, -1, math.MinInt, math.MaxInt}
	j.exprs = append([]string{"", "true", "n == 1", "len(a) == 2", "i % 2 == 0", "x == 3 || x", "true || x", "\"true\"", "n < 2 && 1 / n == 1"}, askedOften...)
	for _, source := range callPrograms {
		j.source, j.count = source, len(allMoments(t, started(t, source, j.tape...)))
		for range 7 {
			j.travel(50)
		}
	}
	j.enough(t)
}

// TestHoweverOfMadePrograms: the same, over programs that were made.
func TestHoweverOfMadePrograms(t *testing.T) {
	d := dice(11)
	j := &journey{T: t, dice: &d, tape: []int{3, 1}, counts: map[string]int{}}
	for range 150 {
		m, routines, source := made(&d)
		j.source = source
		moments := secondRunOf(routines, j.tape).moments
		j.count, j.lines, j.exprs = len(moments), []int{0, 1, 2, 3}, []string{"", "true", "true || a", "$", "1 1"}
		for range 8 {
			some := pick(&d, moments)
			j.exprs = append(j.exprs, (&writer{dice: &d}).text(m.condition(some.Vars)))
			if len(some.Stack) > 0 {
				j.lines = append(j.lines, pick(&d, some.Stack).Line)
			}
		}
		j.travel(60)
	}
	j.enough(t)
}
