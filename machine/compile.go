package machine

import (
	"hindsight/syntax"
	"hindsight/value"
)

// A function is one of the source, as its instructions.
type function struct {
	name string
	code []instruction
}

// A statement is what a moment tells of one.
type statement struct {
	line int
	seen *variable
}

// A variable hangs on the one that was declared ahead of it, if that is still
// to be seen: so each statement has all that it sees by one pointer, and blocks
// share what they both see.
type variable struct {
	name  string
	slot  int
	outer *variable
}

type compiler struct {
	functions []*function
	code      []instruction
	seen      *variable
}

// compile makes all functions before it goes into one, since a call may stand
// ahead of what it calls. It gives main.
func compile(program syntax.Program) *function {
	var c compiler
	for _, f := range program {
		c.functions = append(c.functions, &function{name: f.Name.Text})
	}
	for i, f := range program {
		c.functions[i].code = c.body(f)
	}
	return c.function("main")
}

func (c *compiler) body(f syntax.Function) []instruction {
	c.code, c.seen = nil, nil
	for _, parameter := range f.Parameters {
		c.see(parameter.Text)
	}
	c.statements(f.Body)
	c.emit(push{value.Int(0)})
	c.emit(give{})
	return c.code
}

func (c *compiler) block(statements []syntax.Node) {
	outer := c.seen
	c.statements(statements)
	c.seen = outer
}

func (c *compiler) statements(nodes []syntax.Node) {
	for _, n := range nodes {
		c.statement(n)
	}
}

func (c *compiler) statement(n syntax.Node) {
	start := c.emit(begin{statement{n.Line(), c.seen}})
	switch n := n.(type) {
	case syntax.Declare:
		c.expr(n.Value)
		c.emit(declare{c.free()})
		c.see(n.Name.Text)
	case syntax.Assign:
		c.exprs(n.Indices)
		c.expr(n.Value)
		c.emit(assign{c.slot(n.Text), len(n.Indices)})
	case syntax.If:
		c.choice(n)
	case syntax.While:
		c.loop(n, start)
	case syntax.Return:
		c.expr(n.Value)
		c.emit(give{})
	case syntax.Print:
		c.expr(n.Value)
		c.emit(printOut{})
	case syntax.Call:
		c.call(n)
		c.emit(drop{})
	}
}

func (c *compiler) choice(n syntax.If) {
	c.expr(n.Condition)
	toElse := c.emit(nil)
	c.block(n.Then)
	toEnd := c.emit(nil)
	c.code[toElse] = unless{len(c.code)}
	c.block(n.Else)
	c.code[toEnd] = jump{len(c.code)}
}

// loop leads back to the beginning of the statement: each look at the
// condition is a moment.
func (c *compiler) loop(n syntax.While, start int) {
	c.expr(n.Condition)
	toEnd := c.emit(nil)
	c.block(n.Body)
	c.emit(jump{start})
	c.code[toEnd] = unless{len(c.code)}
}

func (c *compiler) exprs(nodes []syntax.Node) {
	for _, n := range nodes {
		c.expr(n)
	}
}

func (c *compiler) expr(n syntax.Node) {
	switch n := n.(type) {
	case syntax.Number:
		c.emit(push{value.Int(n.Value)})
	case syntax.String:
		c.emit(push{value.Str(n.Text)})
	case syntax.Bool:
		c.emit(push{value.Bool(n.Value)})
	case syntax.Variable:
		c.emit(load{c.slot(n.Text)})
	case syntax.List:
		c.exprs(n.Values)
		c.emit(list{len(n.Values)})
	case syntax.Index:
		c.expr(n.Whole)
		c.expr(n.At)
		c.emit(index{})
	case syntax.Unary:
		c.expr(n.Operand)
		c.emit(unary{n.Operator})
	case syntax.Binary:
		c.binary(n)
	case syntax.Call:
		c.call(n)
	}
}

func (c *compiler) binary(n syntax.Binary) {
	c.expr(n.Left)
	if n.Operator != "&&" && n.Operator != "||" {
		c.expr(n.Right)
		c.emit(binary{n.Operator})
		return
	}
	toEnd := c.emit(nil)
	c.expr(n.Right)
	c.emit(truth{})
	c.code[toEnd] = shortcut{when: n.Operator == "||", to: len(c.code)}
}

func (c *compiler) call(n syntax.Call) {
	c.exprs(n.Values)
	switch n.Text {
	case "len":
		c.emit(length{})
	case "read":
		c.emit(read{})
	default:
		c.emit(call{c.function(n.Text), len(n.Values)})
	}
}

// emit tells where the instruction stands, for those that lead there and for
// those (nil for now) whose aim is not known yet.
func (c *compiler) emit(i instruction) int {
	c.code = append(c.code, i)
	return len(c.code) - 1
}

func (c *compiler) function(name string) *function {
	for _, f := range c.functions {
		if f.name == name {
			return f
		}
	}
	return nil
}

func (c *compiler) see(name string) {
	c.seen = &variable{name: name, slot: c.free(), outer: c.seen}
}

// free is the first slot that no variable to be seen has.
func (c *compiler) free() int {
	if c.seen == nil {
		return 0
	}
	return c.seen.slot + 1
}

func (c *compiler) slot(name string) int {
	v := c.seen
	for v.name != name {
		v = v.outer
	}
	return v.slot
}
