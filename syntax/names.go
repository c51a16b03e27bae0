package syntax

import (
	"slices"

	"hindsight/api"
)

// A checker goes through nodes in the order of their tokens, so that the first
// wrong name that it comes to is the first of the source.
type checker struct {
	parameters func(function string) (int, bool) // how many it has, if it is there
	seen       []string                          // the variables that are to be seen
}

func checkMain(program Program) {
	if count, ok := program.parameters("main"); !ok || count > 0 {
		fail(api.Main, 0)
	}
}

func checkNames(program Program) {
	c := checker{parameters: program.parameters}
	for i := range program {
		c.function(program, i)
	}
}

// CheckExpr panics with a Fault if an expression has a wrong name: the
// variables that are to be seen are those handed in, and len is the one
// function.
func CheckExpr(expr Node, seen []string) {
	c := checker{parameters: parametersOfLen, seen: seen}
	c.node(expr)
}

func parametersOfLen(function string) (int, bool) {
	return 1, function == "len"
}

// parameters tells how many a function has: the first of this name, and len
// and read are there ahead of all.
func (p Program) parameters(name string) (int, bool) {
	switch name {
	case "len":
		return 1, true
	case "read":
		return 0, true
	}
	for _, f := range p {
		if f.Name.Text == name {
			return len(f.Parameters), true
		}
	}
	return 0, false
}

func (c *checker) function(program Program, i int) {
	f := program[i]
	if _, taken := program[:i].parameters(f.Name.Text); taken {
		fail(api.Name, f.Name.Line())
	}
	c.seen = nil
	for _, name := range f.Parameters {
		c.mayDeclare(name)
		c.seen = append(c.seen, name.Text)
	}
	c.block(f.Body)
}

func (c *checker) block(statements []Node) {
	outer := len(c.seen)
	c.nodes(statements)
	c.seen = c.seen[:outer]
}

func (c *checker) nodes(nodes []Node) {
	for _, n := range nodes {
		c.node(n)
	}
}

func (c *checker) node(n Node) {
	switch n := n.(type) {
	case Declare:
		c.declare(n)
	case Assign:
		c.use(n.Name)
		c.nodes(n.Indices)
		c.node(n.Value)
	case If:
		c.node(n.Condition)
		c.block(n.Then)
		c.block(n.Else)
	case While:
		c.node(n.Condition)
		c.block(n.Body)
	case Return:
		c.node(n.Value)
	case Print:
		c.node(n.Value)
	case Call:
		c.call(n)
	case Variable:
		c.use(n.Name)
	case List:
		c.nodes(n.Values)
	case Index:
		c.node(n.Whole)
		c.node(n.At)
	case Unary:
		c.node(n.Operand)
	case Binary:
		c.node(n.Left)
		c.node(n.Right)
	}
}

// declare looks at the value before the variable is to be seen: it is so only
// from behind its statement on.
func (c *checker) declare(d Declare) {
	c.mayDeclare(d.Name)
	c.node(d.Value)
	c.seen = append(c.seen, d.Name.Text)
}

func (c *checker) mayDeclare(name Name) {
	if name.Text == "len" || name.Text == "read" || slices.Contains(c.seen, name.Text) {
		fail(api.Name, name.Line())
	}
}

func (c *checker) use(name Name) {
	if !slices.Contains(c.seen, name.Text) {
		fail(api.Name, name.Line())
	}
}

// call looks at the count before the values: the function's name stands ahead
// of them.
func (c *checker) call(call Call) {
	count, ok := c.parameters(call.Text)
	if !ok {
		fail(api.Name, call.Line())
	}
	if count != len(call.Values) {
		fail(api.Count, call.Line())
	}
	c.nodes(call.Values)
}
