package syntax

import "hindsight/api"

// A parser never goes back, and takes no token before it fits: so the token
// that it fails at is the first with which no program goes on.
type parser struct {
	tokens []token
	at     int
}

func (p *parser) program() Program {
	var functions Program
	for p.next().sort != endToken {
		functions = append(functions, p.function())
	}
	return functions
}

func (p *parser) function() Function {
	p.expect("func")
	name := p.name()
	return Function{Name: name, Parameters: p.parameters(), Body: p.block()}
}

func (p *parser) parameters() []Name {
	p.expect("(")
	var names []Name
	if p.accept(")") {
		return names
	}
	names = append(names, p.name())
	for p.accept(",") {
		names = append(names, p.name())
	}
	p.expect(")")
	return names
}

func (p *parser) block() []Node {
	p.expect("{")
	var statements []Node
	for !p.accept("}") {
		statements = append(statements, p.statement())
	}
	return statements
}

func (p *parser) statement() Node {
	place := p.place()
	switch {
	case p.accept("var"):
		name := p.name()
		p.expect("=")
		return Declare{place, name, p.lastExpr()}
	case p.accept("if"):
		condition := p.expr()
		then := p.block()
		return If{place, condition, then, p.elseBlock()}
	case p.accept("while"):
		condition := p.expr()
		return While{place, condition, p.block()}
	case p.accept("return"):
		if p.accept(";") {
			return Return{place, Number{Place: place}}
		}
		return Return{place, p.lastExpr()}
	case p.accept("print"):
		return Print{place, p.lastExpr()}
	}
	return p.callOrAssign()
}

func (p *parser) elseBlock() []Node {
	if p.accept("else") {
		return p.block()
	}
	return nil
}

func (p *parser) callOrAssign() Node {
	name := p.name()
	if p.accept("(") {
		call := Call{name, p.values(")")}
		p.expect(";")
		return call
	}
	var indices []Node
	for p.accept("[") {
		indices = append(indices, p.expr())
		p.expect("]")
	}
	p.expect("=")
	return Assign{name, indices, p.lastExpr()}
}

// lastExpr is the expression with which a statement ends.
func (p *parser) lastExpr() Node {
	value := p.expr()
	p.expect(";")
	return value
}

func (p *parser) expr() Node {
	return p.chain(p.and, "||")
}

func (p *parser) and() Node {
	return p.chain(p.relation, "&&")
}

func (p *parser) relation() Node {
	place, left := p.place(), p.sum()
	operator := p.acceptOneOf("==", "!=", "<", "<=")
	if operator == "" {
		return left
	}
	return Binary{place, operator, left, p.sum()}
}

func (p *parser) sum() Node {
	return p.chain(p.product, "+", "-")
}

func (p *parser) product() Node {
	return p.chain(p.unary, "*", "/", "%")
}

// chain reads operands with operators between them; the left ones bind first.
func (p *parser) chain(operand func() Node, operators ...string) Node {
	place, left := p.place(), operand()
	for {
		operator := p.acceptOneOf(operators...)
		if operator == "" {
			return left
		}
		left = Binary{place, operator, left, operand()}
	}
}

func (p *parser) unary() Node {
	place := p.place()
	operator := p.acceptOneOf("-", "!")
	if operator == "" {
		return p.part()
	}
	return Unary{place, operator, p.unary()}
}

func (p *parser) part() Node {
	place, whole := p.place(), p.primary()
	for p.accept("[") {
		whole = Index{place, whole, p.expr()}
		p.expect("]")
	}
	return whole
}

func (p *parser) primary() Node {
	t, place := p.next(), p.place()
	switch {
	case t.sort == numberToken:
		p.at++
		return Number{place, t.value}
	case t.sort == stringToken:
		p.at++
		return String{place, t.text}
	case p.accept("true"):
		return Bool{place, true}
	case p.accept("false"):
		return Bool{place, false}
	case p.accept("("):
		inner := p.expr()
		p.expect(")")
		return inner
	case p.accept("["):
		return List{place, p.values("]")}
	}
	name := p.name()
	if p.accept("(") {
		return Call{name, p.values(")")}
	}
	return Variable{name}
}

// values reads expressions up to the mark that closes them.
func (p *parser) values(closing string) []Node {
	var values []Node
	if p.accept(closing) {
		return values
	}
	values = append(values, p.expr())
	for p.accept(",") {
		values = append(values, p.expr())
	}
	p.expect(closing)
	return values
}

func (p *parser) next() token { return p.tokens[p.at] }

func (p *parser) place() Place { return Place{p.next().line} }

func (p *parser) accept(mark string) bool {
	t := p.next()
	if t.sort != markToken || t.text != mark {
		return false
	}
	p.at++
	return true
}

// acceptOneOf gives the mark that it took, or the empty text.
func (p *parser) acceptOneOf(wanted ...string) string {
	for _, mark := range wanted {
		if p.accept(mark) {
			return mark
		}
	}
	return ""
}

func (p *parser) expect(mark string) {
	if !p.accept(mark) {
		fail(api.Form, p.next().line)
	}
}

// end fails at a token that is one too many.
func (p *parser) end() {
	if t := p.next(); t.sort != endToken {
		fail(api.Form, t.line)
	}
}

func (p *parser) name() Name {
	t := p.next()
	if t.sort != nameToken {
		fail(api.Form, t.line)
	}
	p.at++
	return Name{Place{t.line}, t.text}
}
