// Package machine runs programs, from moment to moment.
package machine

import (
	"slices"
	"strings"

	"hindsight/api"
	"hindsight/syntax"
	"hindsight/value"
)

// State is all that there is at a moment. One that Start or Next has given is
// never changed: it can be kept, and the run goes on from it more than once.
type State struct {
	time   int
	frames []frame // that of main first
	tape   []int   // what has not been read
	output []string
	stop   api.Stop
}

// A frame is a call that is being done.
type frame struct {
	function  *function
	next      int // the instruction that is to be done next
	doing     statement
	variables []value.Value // by their slots
	operands  []value.Value
}

// Start gives the state at moment 0. The program must have no fault.
func Start(program syntax.Program, tape []int) State {
	s := State{
		frames: []frame{{function: compile(program)}},
		tape:   slices.Clone(tape),
	}
	s.goOn()
	return s
}

// Next gives the state at the next moment; false if this one is the last.
func (s State) Next() (State, bool) {
	if s.stop != api.None {
		return State{}, false
	}
	next := s.copied()
	next.time++
	next.goOn()
	return next, true
}

// goOn goes to the next moment. A stop on the way leaves things as they are
// then: this is the last moment.
func (s *State) goOn() {
	s.stop = stopOf(s.toStatement)
	if s.stop == api.None && s.time == api.MaxTime {
		s.stop = api.Fuel
	}
}

// stopOf tells the stop with which something that runs gives up. Another panic
// goes on: it would be an error of the program, which must not pass for a stop.
func stopOf(run func()) (stop api.Stop) {
	defer func() {
		switch given := recover().(type) {
		case nil:
		case value.Stop:
			stop = api.Stop(given)
		default:
			panic(given)
		}
	}()
	run()
	return api.None
}

// toStatement goes on until a statement begins. If main ends before one does,
// that is a stop like the others.
func (s *State) toStatement() {
	for len(s.frames) > 0 {
		i := s.top().fetch()
		i.do(s)
		if _, ok := i.(begin); ok {
			return
		}
	}
	panic(value.Stop(api.Done))
}

// copied shares with the state what no instruction changes in place.
func (s State) copied() State {
	s.frames = slices.Clone(s.frames)
	for i := range s.frames {
		f := &s.frames[i]
		f.variables = slices.Clone(f.variables)
		f.operands = slices.Clone(f.operands)
	}
	s.output = slices.Clone(s.output)
	return s
}

// Time tells the number of the moment.
func (s State) Time() int { return s.time }

// Depth tells how many frames there are.
func (s State) Depth() int { return len(s.frames) }

// Line tells the line of the last frame's statement; false if there is no frame.
func (s State) Line() (int, bool) {
	if len(s.frames) == 0 {
		return 0, false
	}
	return s.top().doing.line, true
}

// Moment tells the state, in memory of its own.
func (s State) Moment() api.Moment {
	return api.Moment{
		Time:   s.time,
		Stack:  s.stack(),
		Vars:   s.vars(),
		Output: slices.Clone(s.output),
		Stop:   s.stop,
	}
}

func (s State) stack() []api.Frame {
	var stack []api.Frame
	for _, f := range s.frames {
		stack = append(stack, api.Frame{Func: f.function.name, Line: f.doing.line})
	}
	return stack
}

func (s State) vars() []api.Var {
	var vars []api.Var
	for v := s.seen(); v != nil; v = v.outer {
		vars = append(vars, api.Var{Name: v.name, Value: value.Written(s.top().variables[v.slot])})
	}
	slices.SortFunc(vars, func(a, b api.Var) int { return strings.Compare(a.Name, b.Name) })
	return vars
}

// Names tells which variables are to be seen, in no order that means anything.
func (s State) Names() []string {
	var names []string
	for v := s.seen(); v != nil; v = v.outer {
		names = append(names, v.name)
	}
	return names
}

// seen gives the variables that are to be seen: none, if there is no frame.
func (s State) seen() *variable {
	if len(s.frames) == 0 {
		return nil
	}
	return s.top().doing.seen
}

func (s *State) top() *frame { return &s.frames[len(s.frames)-1] }

func (f *frame) fetch() instruction {
	i := f.function.code[f.next]
	f.next++
	return i
}

func (f *frame) push(v value.Value) { f.operands = append(f.operands, v) }

func (f *frame) pop() value.Value {
	last := len(f.operands) - 1
	v := f.operands[last]
	f.operands = f.operands[:last]
	return v
}

// popMany gives the last values in the order in which they were pushed, in
// memory of their own.
func (f *frame) popMany(count int) []value.Value {
	rest := len(f.operands) - count
	values := slices.Clone(f.operands[rest:])
	f.operands = f.operands[:rest]
	return values
}
