package hindsight

import (
	"hindsight/api"
	"hindsight/machine"
	"hindsight/syntax"
)

// Eval works out an expression (P9).
func (s *Session) Eval(expr string) (string, api.Stop, api.Kind, int) {
	node, kind, line := readExpr(expr)
	if kind != api.Fine {
		return "", api.None, kind, line
	}
	a := answerAt(s.now, node)
	return a.text, a.stop, a.kind, a.line
}

// Since tells from which moment on an expression has come to the same (P10).
func (s *Session) Since(expr string) (int, api.Kind, int) {
	node, kind, line := readExpr(expr)
	if kind != api.Fine {
		return 0, kind, line
	}
	here := answerAt(s.now, node)
	if here.kind != api.Fine {
		return 0, here.kind, here.line
	}
	for state := range s.earlier() {
		if answerAt(state, node) != here {
			return state.Time() + 1, api.Fine, 0
		}
	}
	return 0, api.Fine, 0
}

// An answer is what Eval tells.
type answer struct {
	text string
	stop api.Stop
	kind api.Kind
	line int
}

// readExpr does what is the same at every moment: the text is read once,
// however many moments are asked.
func readExpr(text string) (expr syntax.Node, kind api.Kind, line int) {
	kind, line = faultOf(func() { expr = syntax.ReadExpr(text) })
	return expr, kind, line
}

func answerAt(state machine.State, expr syntax.Node) answer {
	var a answer
	a.kind, a.line = faultOf(func() { syntax.CheckExpr(expr, state.Names()) })
	if a.kind == api.Fine {
		a.text, a.stop = state.Eval(expr)
	}
	return a
}
