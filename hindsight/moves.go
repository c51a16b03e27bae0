package hindsight

import (
	"iter"
	"slices"

	"hindsight/machine"
)

// Step goes on by a moment (P5).
func (s *Session) Step() bool { return s.goTo(s.later(), anyState) }

// Back goes back by a moment (P5).
func (s *Session) Back() bool { return s.goTo(s.earlier(), anyState) }

// Over goes on, over calls (P6).
func (s *Session) Over() bool { return s.goTo(s.later(), noDeeperThan(s.now.Depth())) }

// Out goes on, out of a call (P6).
func (s *Session) Out() bool { return s.goTo(s.later(), noDeeperThan(s.now.Depth()-1)) }

// BackOver goes back, over calls (P6).
func (s *Session) BackOver() bool { return s.goTo(s.earlier(), noDeeperThan(s.now.Depth())) }

func anyState(machine.State) bool { return true }

func noDeeperThan(depth int) func(machine.State) bool {
	return func(state machine.State) bool { return state.Depth() <= depth }
}

// goTo goes to the first of these states that fits, or, if none does, to the
// last of them; it answers false if there are none at all.
func (s *Session) goTo(states iter.Seq[machine.State], fits func(machine.State) bool) bool {
	to, found := s.now, false
	for state := range states {
		to, found = state, true
		if fits(state) {
			break
		}
	}
	s.now = to
	return found
}

// later goes through the states behind this moment, up to the last.
func (s *Session) later() iter.Seq[machine.State] {
	return func(yield func(machine.State) bool) {
		state, ok := s.next(s.now)
		for ok && yield(state) {
			state, ok = s.next(state)
		}
	}
}

// earlier goes through the states ahead of this moment, back to moment 0. A run
// goes forwards only: so it takes one stretch after the other, and each state is
// worked out once, not once for every state behind it.
func (s *Session) earlier() iter.Seq[machine.State] {
	return func(yield func(machine.State) bool) {
		for end := s.now.Time(); end > 0; {
			stretch := s.stretchTo(end)
			for _, state := range slices.Backward(stretch) {
				if !yield(state) {
					return
				}
			}
			end = stretch[0].Time()
		}
	}
}

// stretchTo gives the states ahead of a moment, from the latest of them that is
// kept on.
func (s *Session) stretchTo(end int) []machine.State {
	var states []machine.State
	state, ok := s.kept.Latest(end - 1)
	for ok && state.Time() < end {
		states = append(states, state)
		state, ok = s.next(state)
	}
	return states
}
