package hindsight_test

import (
	"bytes"
	"math/big"
	"slices"
	"strconv"
	"strings"

	"hindsight/api"
)

// A second way to run programs, for holding the first against: it walks trees
// by recursion, its lists are changed in place and copied wherever the document
// says so, and it tells all the moments of a run at once.

// tree is an expression: sort is number, string, bool, name, list, call, index,
// unary or binary; text is the number, name, string or operator.
type tree struct {
	sort, text string
	parts      []*tree
	line       int // of a name or a call, when it has been written
}

// branch is a statement: sort is var, =, if, while, return, print or call. The
// last of exprs is the value or condition; those ahead of it are indices.
type branch struct {
	sort, name  string
	exprs       []*tree
	then, other []*branch
	line        int
}

type routine struct {
	name       string
	parameters []string
	body       []*branch
}

// listValue is a List that can be changed in place.
type listValue struct{ items []any }

type activation struct {
	routine string
	line    int
	names   []string
	values  []any
}

type secondRun struct {
	routines []*routine
	tape     []int
	calls    []*activation
	output   []string
	moments  []api.Moment
	tops     []*activation // the last of the calls at each moment, as it was then
}

// over is what the recursion is left with when the last moment is told.
type over struct{}

func secondRunOf(routines []*routine, tape []int) *secondRun {
	r := &secondRun{routines: routines, tape: tape}
	r.untilOver(func() {
		r.enter("main", nil)
		r.tell(api.Done)
	})
	return r
}

func (r *secondRun) untilOver(run func()) {
	defer func() {
		if given := recover(); given != nil && given != (over{}) {
			panic(given)
		}
	}()
	run()
}

// secondEval works out an expression where a call has these variables: in a run
// of its own, whose one moment would be the stop.
func secondEval(c *activation, e *tree) answered {
	if kind, line := e.wrongName(c.names); kind != api.Fine {
		return answered{kind: kind, line: line}
	}
	r := &secondRun{calls: []*activation{c}}
	var v any
	r.untilOver(func() { v = r.work(e) })
	if len(r.moments) > 0 {
		return answered{stop: r.moments[0].Stop}
	}
	return answered{text: writtenValue(v)}
}

// wrongName tells the first wrong name of an expression that has been written.
func (e *tree) wrongName(seen []string) (api.Kind, int) {
	switch {
	case e.sort == "name" && !slices.Contains(seen, e.text), e.sort == "call" && e.text != "len":
		return api.Name, e.line
	case e.sort == "call" && len(e.parts) != 1:
		return api.Count, e.line
	}
	for _, part := range e.parts {
		if kind, line := part.wrongName(seen); kind != api.Fine {
			return kind, line
		}
	}
	return api.Fine, 0
}

func (r *secondRun) tell(stop api.Stop) {
	if len(r.moments) == api.MaxTime && stop == api.None {
		stop = api.Fuel
	}
	m := api.Moment{Time: len(r.moments), Output: slices.Clone(r.output), Stop: stop}
	for _, c := range r.calls {
		m.Stack = append(m.Stack, api.Frame{Func: c.routine, Line: c.line})
	}
	top := &activation{}
	if len(r.calls) > 0 {
		c := r.calls[len(r.calls)-1]
		m.Vars = varsOf(c)
		top.names = slices.Clone(c.names)
		for _, v := range c.values {
			top.values = append(top.values, copyOf(v))
		}
	}
	r.moments, r.tops = append(r.moments, m), append(r.tops, top)
	if stop != api.None {
		panic(over{})
	}
}

func varsOf(c *activation) []api.Var {
	var vars []api.Var
	for i, name := range c.names {
		at := 0
		for at < len(vars) && bytes.Compare([]byte(vars[at].Name), []byte(name)) < 0 {
			at++
		}
		vars = slices.Insert(vars, at, api.Var{Name: name, Value: writtenValue(c.values[i])})
	}
	return vars
}

func writtenValue(v any) string {
	switch v := v.(type) {
	case int64:
		return big.NewInt(v).String()
	case bool:
		return map[bool]string{true: "true", false: "false"}[v]
	case string:
		return "\"" + v + "\""
	}
	out := "["
	for i, item := range v.(*listValue).items {
		if i > 0 {
			out += ", "
		}
		out += writtenValue(item)
	}
	return out + "]"
}

func copyOf(v any) any {
	l, ok := v.(*listValue)
	if !ok {
		return v
	}
	c := &listValue{}
	for _, item := range l.items {
		c.items = append(c.items, copyOf(item))
	}
	return c
}

func cellsOf(v any) int {
	switch v := v.(type) {
	case string:
		return 1 + len([]byte(v))
	case *listValue:
		n := 1
		for _, item := range v.items {
			n += cellsOf(item)
		}
		return n
	}
	return 1
}

func (r *secondRun) need(holds bool, stop api.Stop) {
	if !holds {
		r.tell(stop)
	}
}

func (r *secondRun) notLarge(v any) any {
	r.need(cellsOf(v) <= api.MaxCells, api.Large)
	return v
}

func (r *secondRun) enter(name string, handed []any) any {
	for _, f := range r.routines {
		if f.name != name {
			continue
		}
		r.need(len(r.calls) < api.MaxDepth, api.Depth)
		c := &activation{routine: name, names: slices.Clone(f.parameters)}
		for _, v := range handed {
			c.values = append(c.values, copyOf(v))
		}
		r.calls = append(r.calls, c)
		given, _ := r.block(c, f.body)
		r.calls = r.calls[:len(r.calls)-1]
		if given == nil {
			given = int64(0)
		}
		return given
	}
	panic("no routine " + name)
}

// block gives what was returned, and whether it was.
func (r *secondRun) block(c *activation, body []*branch) (any, bool) {
	outer := len(c.names)
	for _, b := range body {
		if given, left := r.branch(c, b); left {
			return given, true
		}
	}
	c.names, c.values = c.names[:outer], c.values[:outer]
	return nil, false
}

func (r *secondRun) branch(c *activation, b *branch) (any, bool) {
	for {
		c.line = b.line
		r.tell(api.None)
		switch b.sort {
		case "if", "while":
			holds, ok := r.work(b.exprs[0]).(bool)
			r.need(ok, api.Types)
			if b.sort == "if" && !holds {
				return r.block(c, b.other)
			}
			if !holds {
				return nil, false
			}
			given, left := r.block(c, b.then)
			if left || b.sort == "if" {
				return given, left
			}
			continue
		case "return":
			if len(b.exprs) == 0 {
				return int64(0), true
			}
			return r.work(b.exprs[0]), true
		}
		r.plain(c, b)
		return nil, false
	}
}

func (r *secondRun) plain(c *activation, b *branch) {
	var worked []any
	for _, e := range b.exprs {
		worked = append(worked, r.work(e))
	}
	switch b.sort {
	case "var":
		c.names, c.values = append(c.names, b.name), append(c.values, copyOf(worked[0]))
	case "=":
		at := slices.Index(c.names, b.name)
		last := len(worked) - 1
		r.assign(&c.values[at], worked[:last], worked[last])
	case "print":
		r.need(len(r.output) < api.MaxOutput, api.Output)
		line, ok := worked[0].(string)
		if !ok {
			line = writtenValue(worked[0])
		}
		r.output = append(r.output, line)
	}
}

// assign changes a copy, and only then the variable.
func (r *secondRun) assign(variable *any, indices []any, to any) {
	changed := copyOf(*variable)
	place := &changed
	for _, index := range indices {
		l, isList := (*place).(*listValue)
		i, isInt := index.(int64)
		r.need(isList && isInt, api.Types)
		r.need(0 <= i && i < int64(len(l.items)), api.Index)
		place = &l.items[i]
	}
	*place = copyOf(to)
	*variable = r.notLarge(changed)
}

func (r *secondRun) work(e *tree) any {
	switch e.sort {
	case "number":
		n, err := strconv.ParseInt(e.text, 10, 64)
		if err != nil {
			panic(err)
		}
		return n
	case "string":
		return e.text
	case "bool":
		return e.text == "true"
	case "name":
		c := r.calls[len(r.calls)-1]
		return copyOf(c.values[slices.Index(c.names, e.text)])
	}
	if e.text == "&&" || e.text == "||" {
		left, ok := r.work(e.parts[0]).(bool)
		r.need(ok, api.Types)
		if left == (e.text == "||") {
			return left
		}
		right, ok := r.work(e.parts[1]).(bool)
		r.need(ok, api.Types)
		return right
	}
	var worked []any
	for _, part := range e.parts {
		worked = append(worked, r.work(part))
	}
	switch e.sort {
	case "list":
		return r.notLarge(copyOf(&listValue{worked}))
	case "call":
		return r.call(e.text, worked)
	case "index":
		return r.look(worked[0], worked[1])
	case "unary":
		return r.unary(e.text, worked[0])
	}
	return r.binary(e.text, worked[0], worked[1])
}

func (r *secondRun) call(name string, handed []any) any {
	switch name {
	case "read":
		r.need(len(r.tape) > 0, api.Tape)
		n := int64(r.tape[0])
		r.tape = r.tape[1:]
		return n
	case "len":
		return int64(len(r.items(handed[0])))
	}
	return r.enter(name, handed)
}

// items are a List's values, or a Str's characters as Strs.
func (r *secondRun) items(v any) []any {
	if l, ok := v.(*listValue); ok {
		return l.items
	}
	s, ok := v.(string)
	r.need(ok, api.Types)
	var out []any
	for _, character := range strings.Split(s, "") {
		out = append(out, character)
	}
	return out
}

func (r *secondRun) look(whole, at any) any {
	items := r.items(whole)
	i, ok := at.(int64)
	r.need(ok, api.Types)
	r.need(0 <= i && i < int64(len(items)), api.Index)
	return copyOf(items[i])
}

// wrapped takes a number without the bits beyond 64.
func wrapped(n *big.Int) int64 {
	size := new(big.Int).Lsh(big.NewInt(1), 64)
	n = new(big.Int).Mod(n, size)
	if n.Bit(63) == 1 {
		n.Sub(n, size)
	}
	return n.Int64()
}

func (r *secondRun) unary(operator string, v any) any {
	if operator == "!" {
		b, ok := v.(bool)
		r.need(ok, api.Types)
		return !b
	}
	n, ok := v.(int64)
	r.need(ok, api.Types)
	return wrapped(new(big.Int).Neg(big.NewInt(n)))
}

func (r *secondRun) binary(operator string, a, b any) any {
	switch operator {
	case "==":
		return same(a, b)
	case "!=":
		return !same(a, b)
	}
	x, xInt := a.(int64)
	y, yInt := b.(int64)
	if xInt && yInt {
		return r.ofNumbers(operator, big.NewInt(x), big.NewInt(y))
	}
	s, sStr := a.(string)
	u, uStr := b.(string)
	if sStr && uStr {
		switch operator {
		case "<":
			return bytes.Compare([]byte(s), []byte(u)) < 0
		case "<=":
			return bytes.Compare([]byte(s), []byte(u)) <= 0
		case "+":
			return r.notLarge(s + u)
		}
	}
	l, lList := a.(*listValue)
	m, mList := b.(*listValue)
	r.need(lList && mList && operator == "+", api.Types)
	return r.notLarge(copyOf(&listValue{append(slices.Clone(l.items), m.items...)}))
}

func (r *secondRun) ofNumbers(operator string, x, y *big.Int) any {
	z := new(big.Int)
	switch operator {
	case "<":
		return x.Cmp(y) < 0
	case "<=":
		return x.Cmp(y) <= 0
	case "+":
		return wrapped(z.Add(x, y))
	case "-":
		return wrapped(z.Sub(x, y))
	case "*":
		return wrapped(z.Mul(x, y))
	}
	r.need(y.Sign() != 0, api.Zero)
	if operator == "/" {
		return wrapped(z.Quo(x, y))
	}
	return wrapped(z.Sub(x, new(big.Int).Mul(y, new(big.Int).Quo(x, y))))
}

// same: what is written alike is alike, since the sort is to be seen in it.
func same(a, b any) bool { return writtenValue(a) == writtenValue(b) }
