// Package hindsight: a small language, and a debugger that goes backwards: see DOC.md.
package hindsight

import (
	"hindsight/api"
	"hindsight/syntax"
)

// Check tells what is wrong with a source, and its line (P2).
func Check(source string) (api.Kind, int) {
	return faultOf(func() { syntax.Read(source) })
}

// faultOf tells the fault with which a reading gives up. Another panic goes on:
// it would be an error of the program, which must not pass for a fault.
func faultOf(read func()) (kind api.Kind, line int) {
	defer func() {
		switch given := recover().(type) {
		case nil:
		case syntax.Fault:
			kind, line = given.Kind, given.Line
		default:
			panic(given)
		}
	}()
	read()
	return api.Fine, 0
}

// Session is a debugger at work.
type Session struct{}

// Start begins a session (P3).
func Start(source string, tape []int) (*Session, api.Kind, int) { return nil, api.Fine, 0 }

// Now tells the moment (P4).
func (s *Session) Now() api.Moment { return api.Moment{} }

// Seek goes to a moment (P4).
func (s *Session) Seek(time int) bool { return false }

// Step goes on by a moment (P5).
func (s *Session) Step() bool { return false }

// Back goes back by a moment (P5).
func (s *Session) Back() bool { return false }

// Over goes on, over calls (P6).
func (s *Session) Over() bool { return false }

// Out goes on, out of a call (P6).
func (s *Session) Out() bool { return false }

// BackOver goes back, over calls (P6).
func (s *Session) BackOver() bool { return false }

// Break sets a breakpoint (P7).
func (s *Session) Break(line int, when string) (api.Kind, int) { return api.Fine, 0 }

// Clear takes a breakpoint away (P7).
func (s *Session) Clear(line int) bool { return false }

// Go goes on to a breakpoint (P8).
func (s *Session) Go() bool { return false }

// GoBack goes back to a breakpoint (P8).
func (s *Session) GoBack() bool { return false }

// Eval works out an expression (P9).
func (s *Session) Eval(expr string) (string, api.Stop, api.Kind, int) {
	return "", api.None, api.Fine, 0
}

// Since tells from which moment on an expression has come to the same (P10).
func (s *Session) Since(expr string) (int, api.Kind, int) { return 0, api.Fine, 0 }
