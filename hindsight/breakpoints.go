package hindsight

import (
	"strings"

	"hindsight/api"
	"hindsight/machine"
	"hindsight/syntax"
)

// A breakpoint hits where its condition comes to true; one that has none hits
// wherever its line is.
type breakpoint struct {
	when syntax.Node // nil: none
}

// Break sets a breakpoint (P7).
func (s *Session) Break(line int, when string) (api.Kind, int) {
	b, kind, at := readBreakpoint(when)
	if kind != api.Fine {
		return kind, at
	}
	s.breakpoints[line] = b
	return api.Fine, 0
}

// Clear takes a breakpoint away (P7).
func (s *Session) Clear(line int) bool {
	_, there := s.breakpoints[line]
	delete(s.breakpoints, line)
	return there
}

// Go goes on to a breakpoint (P8).
func (s *Session) Go() bool { return s.goTo(s.later(), s.hits) }

// GoBack goes back to a breakpoint (P8).
func (s *Session) GoBack() bool { return s.goTo(s.earlier(), s.hits) }

// readBreakpoint leaves the names of a condition alone: which of them are to be
// seen is another matter at each moment.
func readBreakpoint(when string) (breakpoint, api.Kind, int) {
	if when == "" {
		return breakpoint{}, api.Fine, 0
	}
	// A copy, as of a source: the condition is kept, what is handed in is not.
	expr, kind, line := readExpr(strings.Clone(when))
	return breakpoint{when: expr}, kind, line
}

func (s *Session) hits(state machine.State) bool {
	line, ok := state.Line()
	if !ok {
		return false
	}
	b, ok := s.breakpoints[line]
	return ok && b.holdsAt(state)
}

// holdsAt goes by the value as it is written: nothing but the Bool is written
// true, since a Str has its quotes.
func (b breakpoint) holdsAt(state machine.State) bool {
	return b.when == nil || answerAt(state, b.when) == answer{text: "true"}
}
