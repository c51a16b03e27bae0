package machine

import (
	"hindsight/api"
	"hindsight/syntax"
	"hindsight/value"
)

// Eval works out an expression over the variables that are to be seen, and
// gives the value as it is written, or else the stop. Its names must be those of
// these variables and len.
func (s State) Eval(expr syntax.Node) (string, api.Stop) {
	aside := State{frames: []frame{s.frameFor(expr)}}
	if stop := stopOf(aside.toEnd); stop != api.None {
		return "", stop
	}
	return value.Written(aside.top().pop()), api.None
}

// frameFor makes a frame aside from those of the run. It has the variables
// themselves, not copies: there is nothing in an expression that changes one.
func (s State) frameFor(expr syntax.Node) frame {
	c := compiler{seen: s.seen()}
	c.expr(expr)
	f := frame{function: &function{code: c.code}}
	if len(s.frames) > 0 {
		f.variables = s.top().variables
	}
	return f
}

// toEnd goes on to the end of a frame's instructions, none of which is a call.
func (s *State) toEnd() {
	for f := s.top(); f.next < len(f.function.code); {
		f.fetch().do(s)
	}
}
