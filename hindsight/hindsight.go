// Package hindsight: a small language, and a debugger that goes backwards: see DOC.md.
package hindsight

import (
	"strings"

	"hindsight/api"
	"hindsight/machine"
	"hindsight/store"
	"hindsight/syntax"
)

// Check tells what is wrong with a source, and its line (P2).
func Check(source string) (api.Kind, int) {
	return faultOf(func() { syntax.Read(source) })
}

// faultOf tells the fault with which a reading gives up. Another panic goes on:
// it would be an error of the program, which must not pass for a fault.
func faultOf(read func()) (kind api.Kind, line int) {
	defer func() {
		switch given := recover().(type) {
		case nil:
		case syntax.Fault:
			kind, line = given.Kind, given.Line
		default:
			panic(given)
		}
	}()
	read()
	return api.Fine, 0
}

// apart is how many moments lie between two states that are kept: going back
// runs again over fewer than these.
const apart = 20

// Session is a debugger at work.
type Session struct {
	now         machine.State
	kept        store.Store[int, machine.State] // by moments
	breakpoints map[int]breakpoint              // by lines
}

// Start begins a session (P3).
func Start(source string, tape []int) (*Session, api.Kind, int) {
	var program syntax.Program
	// The names and texts of a program are pieces of what was read: a copy, so
	// that nothing that is handed in is kept.
	kind, line := faultOf(func() { program = syntax.Read(strings.Clone(source)) })
	if kind != api.Fine {
		return nil, kind, line
	}
	s := &Session{now: machine.Start(program, tape), breakpoints: map[int]breakpoint{}}
	s.keep(s.now)
	return s, api.Fine, 0
}

// Now tells the moment (P4).
func (s *Session) Now() api.Moment { return s.now.Moment() }

// Seek goes to a moment (P4).
func (s *Session) Seek(time int) bool {
	state, ok := s.at(time)
	if ok {
		s.now = state
	}
	return ok
}

// at gives the state at a moment, if there is one of that number: it runs there
// from the latest state ahead of it that was kept.
func (s *Session) at(time int) (machine.State, bool) {
	state, ok := s.kept.Latest(time)
	for ok && state.Time() < time {
		state, ok = s.next(state)
	}
	return state, ok
}

// next gives the state behind another, if there is one. All that runs goes by
// it, so that no state that is to be kept is missed.
func (s *Session) next(state machine.State) (machine.State, bool) {
	next, ok := state.Next()
	if ok {
		s.keep(next)
	}
	return next, ok
}

func (s *Session) keep(state machine.State) {
	if state.Time()%apart == 0 {
		s.kept.Keep(state.Time(), state)
	}
}
