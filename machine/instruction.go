package machine

import (
	"hindsight/api"
	"hindsight/value"
)

// An instruction is a piece of a statement. A program is run as instructions,
// not as nodes, since what is left to do within a call is then a number that a
// state can keep, and nothing that Go's own stack would have to hold.
type instruction interface {
	do(s *State)
}

type (
	begin    struct{ statement } // each one is a moment
	push     struct{ value value.Value }
	load     struct{ slot int }
	declare  struct{ slot int }
	assign   struct{ slot, indices int }
	jump     struct{ to int }
	unless   struct{ to int }
	shortcut struct {
		when bool // the left operand that tells the result by itself
		to   int
	}
	truth  struct{} // asks that the right operand of a shortcut is a Bool
	unary  struct{ operator string }
	binary struct{ operator string }
	index  struct{}
	list   struct{ count int }
	length struct{}
	read   struct{}
	call   struct {
		function *function
		count    int
	}
	give     struct{}
	drop     struct{} // a statement does not need what its call gives
	printOut struct{}
)

func (i begin) do(s *State) { s.top().doing = i.statement }

func (i push) do(s *State) { s.top().push(i.value) }

func (i load) do(s *State) { s.top().push(s.top().variables[i.slot]) }

// A slot that is taken is one of a block that has ended, or of an earlier
// round of the loop.
func (i declare) do(s *State) {
	f := s.top()
	f.variables = append(f.variables[:i.slot], f.pop())
}

func (i assign) do(s *State) {
	f := s.top()
	to := f.pop()
	f.variables[i.slot] = value.Change(f.variables[i.slot], f.popMany(i.indices), to)
}

func (i jump) do(s *State) { s.top().next = i.to }

func (i unless) do(s *State) {
	if f := s.top(); !value.Truth(f.pop()) {
		f.next = i.to
	}
}

func (i shortcut) do(s *State) {
	f := s.top()
	if left := value.Truth(f.pop()); left == i.when {
		f.push(value.Bool(left))
		f.next = i.to
	}
}

func (i truth) do(s *State) {
	f := s.top()
	f.push(value.Bool(value.Truth(f.pop())))
}

func (i unary) do(s *State) {
	f := s.top()
	f.push(value.Unary(i.operator, f.pop()))
}

func (i binary) do(s *State) {
	f := s.top()
	right, left := f.pop(), f.pop()
	f.push(value.Binary(i.operator, left, right))
}

func (i index) do(s *State) {
	f := s.top()
	at, whole := f.pop(), f.pop()
	f.push(value.At(whole, at))
}

func (i list) do(s *State) {
	f := s.top()
	f.push(value.NewList(f.popMany(i.count)))
}

func (i length) do(s *State) {
	f := s.top()
	f.push(value.Len(f.pop()))
}

func (i read) do(s *State) {
	if len(s.tape) == 0 {
		panic(value.Stop(api.Tape))
	}
	s.top().push(value.Int(s.tape[0]))
	s.tape = s.tape[1:]
}

func (i call) do(s *State) {
	handed := s.top().popMany(i.count)
	if len(s.frames) == api.MaxDepth {
		panic(value.Stop(api.Depth))
	}
	s.frames = append(s.frames, frame{function: i.function, variables: handed})
}

func (i give) do(s *State) {
	given := s.top().pop()
	s.frames = s.frames[:len(s.frames)-1]
	if len(s.frames) > 0 {
		s.top().push(given)
	}
}

func (i drop) do(s *State) { s.top().pop() }

func (i printOut) do(s *State) {
	printed := s.top().pop()
	if len(s.output) == api.MaxOutput {
		panic(value.Stop(api.Output))
	}
	s.output = append(s.output, value.Text(printed))
}
