package hindsight_test

import (
	"slices"
	"strconv"
	"strings"
	"testing"

	"hindsight/api"
	"hindsight/hindsight"
)

// maker makes programs that make some sense, so that they run for a while; now
// and then it takes a value of another sort than fits.
type maker struct {
	*dice
	routines []*routine
	results  []string   // the sort that each routine gives
	takes    [][]string // and those of its parameters
	seen     []string   // the variables
	sorts    []string   // and what they have had at first
	nesting  int
	budget   int
}

var valueSorts = []string{"Int", "Bool", "Str", "List"}

func (m *maker) oneOf(words ...string) string { return words[m.below(len(words))] }

func (m *maker) anySort() string { return m.oneOf(valueSorts...) }

func (m *maker) program() []*routine {
	for i, name := range []string{"main", "f", "g", "h"}[:1+m.below(4)] {
		r := &routine{name: name}
		var sorts []string
		for j := range min(i, 1) * m.below(4) {
			r.parameters = append(r.parameters, []string{"p", "a", "Q"}[j])
			sorts = append(sorts, m.anySort())
		}
		m.routines, m.results, m.takes = append(m.routines, r), append(m.results, m.anySort()), append(m.takes, sorts)
	}
	for i, r := range m.routines {
		m.seen, m.sorts = slices.Clone(r.parameters), slices.Clone(m.takes[i])
		m.budget = 60
		r.body = m.block(3+m.below(6), m.results[i])
	}
	return m.routines
}

func (m *maker) block(count int, result string) []*branch {
	outer := len(m.seen)
	var body []*branch
	for range count {
		body = append(body, m.branch(result)...)
	}
	m.seen, m.sorts = m.seen[:outer], m.sorts[:outer]
	return body
}

func (m *maker) branch(result string) []*branch {
	m.budget--
	if m.budget < 0 || m.nesting > 3 {
		return nil
	}
	m.nesting++
	defer func() { m.nesting-- }()
	switch m.below(16) {
	case 0, 1, 2:
		return m.declare(m.anySort())
	case 3, 4, 5, 6:
		return m.assign()
	case 7, 8:
		return []*branch{{sort: "if", exprs: []*tree{m.expr("Bool", 2)}, then: m.block(m.below(4), result), other: m.block(m.below(3), result)}}
	case 9, 10, 11:
		return m.loop(result)
	case 12:
		if m.below(3) > 0 {
			return nil
		}
		if m.below(3) == 0 {
			return []*branch{{sort: "return"}}
		}
		return []*branch{{sort: "return", exprs: []*tree{m.expr(result, 2)}}}
	case 13:
		return []*branch{{sort: "call", exprs: []*tree{m.call(m.below(len(m.routines)+2), 2)}}}
	}
	return []*branch{{sort: "print", exprs: []*tree{m.expr(m.anySort(), 3)}}}
}

func (m *maker) declare(sort string) []*branch {
	name := m.oneOf("a", "b", "c", "B", "x1", "x", "_", "longest_name_is_")
	if slices.Contains(m.seen, name) {
		return m.assign()
	}
	b := &branch{sort: "var", name: name, exprs: []*tree{m.expr(sort, 3)}}
	m.seen, m.sorts = append(m.seen, name), append(m.sorts, sort)
	return []*branch{b}
}

func (m *maker) assign() []*branch {
	if len(m.seen) == 0 {
		return nil
	}
	i := m.below(len(m.seen))
	if m.sorts[i] == "counter" {
		return nil
	}
	b := &branch{sort: "=", name: m.seen[i]}
	if (m.sorts[i] == "List" || m.sorts[i] == "Str") && m.below(3) == 0 {
		itself := &tree{sort: "name", text: b.name}
		b.exprs = []*tree{{sort: "binary", text: "+", parts: []*tree{itself, itself}}}
		return []*branch{b}
	}
	if m.sorts[i] != "List" || m.below(3) == 0 {
		b.exprs = []*tree{m.expr(m.sorts[i], 3)}
		return []*branch{b}
	}
	for range 1 + m.below(5)/4 {
		b.exprs = append(b.exprs, m.place())
	}
	b.exprs = append(b.exprs, m.expr(m.anySort(), 2))
	return []*branch{b}
}

// loop mostly counts, so that most loops end.
func (m *maker) loop(result string) []*branch {
	counter := m.oneOf("i", "j", "k")
	if slices.Contains(m.seen, counter) || m.below(5) == 0 {
		return []*branch{{sort: "while", exprs: []*tree{m.expr("Bool", 2)}, then: m.block(1+m.below(3), result)}}
	}
	first := &branch{sort: "var", name: counter, exprs: []*tree{{sort: "number", text: "0"}}}
	m.seen, m.sorts = append(m.seen, counter), append(m.sorts, "counter")
	body := m.block(1+m.below(4), result)
	m.sorts[len(m.sorts)-1] = "Int"
	name, one := &tree{sort: "name", text: counter}, &tree{sort: "number", text: "1"}
	next := &branch{sort: "=", name: counter, exprs: []*tree{{sort: "binary", text: "+", parts: []*tree{name, one}}}}
	limit := &tree{sort: "number", text: strconv.Itoa(m.below(4) * m.below(4) * m.below(12))}
	while := &branch{sort: "while", exprs: []*tree{{sort: "binary", text: "<", parts: []*tree{name, limit}}}, then: append(body, next)}
	return []*branch{first, while}
}

func (m *maker) expr(sort string, depth int) *tree {
	m.budget--
	if m.below(60) == 0 {
		sort = m.anySort()
	}
	if depth <= 0 || m.budget < 0 || m.below(4) == 0 {
		return m.leaf(sort)
	}
	if m.below(12) == 0 {
		for i, given := range m.results {
			if given == sort && m.below(3) == 0 {
				return m.call(i, depth-1)
			}
		}
	}
	if m.below(12) == 0 {
		return &tree{sort: "index", parts: []*tree{m.expr("List", depth-1), m.place()}}
	}
	switch sort {
	case "Int":
		return m.intExpr(depth - 1)
	case "Bool":
		return m.boolExpr(depth - 1)
	case "Str":
		if m.below(3) == 0 {
			return &tree{sort: "index", parts: []*tree{m.expr("Str", depth-1), m.place()}}
		}
		return m.pair("+", "Str", depth-1)
	}
	if m.below(2) == 0 {
		return m.pair("+", "List", depth-1)
	}
	l := &tree{sort: "list"}
	for range m.below(4) {
		l.parts = append(l.parts, m.expr(m.anySort(), depth-1))
	}
	return l
}

// place is an index that has a chance to fit.
func (m *maker) place() *tree {
	if m.below(4) == 0 {
		return m.expr("Int", 1)
	}
	return &tree{sort: "number", text: m.oneOf("0", "0", "0", "1")}
}

func (m *maker) pair(operator, sort string, depth int) *tree {
	return &tree{sort: "binary", text: operator, parts: []*tree{m.expr(sort, depth), m.expr(sort, depth)}}
}

func (m *maker) intExpr(depth int) *tree {
	switch m.below(8) {
	case 0:
		return &tree{sort: "unary", text: "-", parts: []*tree{m.expr("Int", depth)}}
	case 1:
		return &tree{sort: "call", text: "len", parts: []*tree{m.expr(m.oneOf("Str", "List"), depth)}}
	case 2:
		if m.below(2) == 0 {
			return &tree{sort: "call", text: "read"}
		}
	}
	return m.pair(m.oneOf("+", "-", "*", "+", "-", "*", "/", "%"), "Int", depth)
}

func (m *maker) boolExpr(depth int) *tree {
	switch m.below(6) {
	case 0:
		return &tree{sort: "unary", text: "!", parts: []*tree{m.expr("Bool", depth)}}
	case 1, 2:
		return m.pair(m.oneOf("&&", "||"), "Bool", depth)
	case 3:
		return m.pair(m.oneOf("==", "!="), m.anySort(), depth)
	}
	return m.pair(m.oneOf("<", "<="), m.oneOf("Int", "Str"), depth)
}

func (m *maker) leaf(sort string) *tree {
	for range 4 {
		if len(m.seen) == 0 {
			break
		}
		if i := m.below(len(m.seen)); m.sorts[i] == sort || m.sorts[i] == "counter" && sort == "Int" {
			return &tree{sort: "name", text: m.seen[i]}
		}
	}
	switch sort {
	case "Int":
		return &tree{sort: "number", text: m.oneOf("0", "1", "2", "0", "1", "2", "3", "10", "7", "9223372036854775807", "4611686018427387904", "0099")}
	case "Bool":
		return &tree{sort: "bool", text: m.oneOf("true", "false")}
	case "Str":
		return &tree{sort: "string", text: m.oneOf("", "a", "b", "né", "日本", "\U0001F600", "\\ //", "ab", "ünïcödé", "\tx{")}
	}
	if m.below(5) == 0 {
		return &tree{sort: "list"}
	}
	return &tree{sort: "list", parts: []*tree{{sort: "number", text: "5"}, {sort: "list", parts: []*tree{{sort: "string", text: "é"}}}}}
}

// call calls a routine of the source, or len, or read.
func (m *maker) call(which, depth int) *tree {
	switch which - len(m.routines) {
	case 0:
		return &tree{sort: "call", text: "len", parts: []*tree{m.expr("Str", depth)}}
	case 1:
		return &tree{sort: "call", text: "read"}
	}
	e := &tree{sort: "call", text: m.routines[which].name}
	for _, sort := range m.takes[which] {
		e.parts = append(e.parts, m.expr(sort, depth))
	}
	return e
}

// writer makes a source of a program, and notes the lines of its statements.
type writer struct {
	*dice
	strings.Builder
	line int
}

func (w *writer) put(words ...string) {
	for _, word := range words {
		w.WriteString(word)
		switch w.below(40) {
		case 0:
			w.WriteString(" //{\n")
			w.line++
		case 1, 2:
			w.WriteString("\n")
			w.line++
		case 3:
			w.WriteString("\t")
		default:
			w.WriteString(" ")
		}
	}
}

func (w *writer) program(routines []*routine) string {
	w.line = 1
	w.put("")
	for _, i := range []int{3, 0, 2, 1} {
		if i >= len(routines) {
			continue
		}
		r := routines[i]
		w.put("func", r.name, "(")
		for j, name := range r.parameters {
			if j > 0 {
				w.put(",")
			}
			w.put(name)
		}
		w.put(")")
		w.block(r.body)
	}
	return w.String()
}

// text makes the text of one expression.
func (w *writer) text(e *tree) string {
	w.line = 1
	w.put("")
	w.expr(e, 0)
	return w.String()
}

func (w *writer) block(body []*branch) {
	w.put("{")
	for _, b := range body {
		b.line = w.line
		w.branch(b)
	}
	w.put("}")
}

func (w *writer) branch(b *branch) {
	switch b.sort {
	case "if", "while":
		w.put(b.sort)
		w.expr(b.exprs[0], 0)
		w.block(b.then)
		if b.other != nil {
			w.put("else")
			w.block(b.other)
		}
		return
	case "var":
		w.put("var", b.name, "=")
	case "=":
		w.put(b.name)
		for _, e := range b.exprs[:len(b.exprs)-1] {
			w.put("[")
			w.expr(e, 0)
			w.put("]")
		}
		w.put("=")
	case "return", "print":
		w.put(b.sort)
	}
	switch {
	case b.sort == "call":
		w.bare(b.exprs[0])
	case len(b.exprs) > 0:
		w.expr(b.exprs[len(b.exprs)-1], 0)
	}
	w.put(";")
}

// binding tells how tightly an expression holds together, by the rules from
// expr (0) to primary (7).
func binding(e *tree) int {
	switch e.sort {
	case "binary":
		switch e.text {
		case "||":
			return 0
		case "&&":
			return 1
		case "==", "!=", "<", "<=":
			return 2
		case "+", "-":
			return 3
		}
		return 4
	case "unary":
		return 5
	case "index":
		return 6
	}
	return 7
}

// expr sets brackets where the rules would bind otherwise, and seldom elsewhere.
func (w *writer) expr(e *tree, least int) {
	if binding(e) < least || w.below(30) == 0 {
		w.put("(")
		w.expr(e, 0)
		w.put(")")
		return
	}
	w.bare(e)
}

func (w *writer) bare(e *tree) {
	own := binding(e)
	switch e.sort {
	case "binary":
		left := own
		if own == 2 {
			left = 3
		}
		w.expr(e.parts[0], left)
		w.put(e.text)
		w.expr(e.parts[1], own+1)
	case "unary":
		w.put(e.text)
		w.expr(e.parts[0], own)
	case "index":
		w.expr(e.parts[0], own)
		w.put("[")
		w.expr(e.parts[1], 0)
		w.put("]")
	case "list":
		w.put("[")
		w.list(e.parts)
		w.put("]")
	case "call":
		e.line = w.line
		w.put(e.text, "(")
		w.list(e.parts)
		w.put(")")
	case "string":
		w.put("\"" + e.text + "\"")
	default:
		e.line = w.line
		w.put(e.text)
	}
}

func (w *writer) list(exprs []*tree) {
	for i, e := range exprs {
		if i > 0 {
			w.put(",")
		}
		w.expr(e, 0)
	}
}

// made makes a program that fits into a source.
func made(d *dice) (*maker, []*routine, string) {
	for {
		m := &maker{dice: d}
		routines := m.program()
		source := (&writer{dice: d}).program(routines)
		if len(source) <= api.MaxSource {
			return m, routines, source
		}
	}
}

// TestRunsAgainstSecondWay holds all the moments of many programs against
// those of the second way to run them.
func TestRunsAgainstSecondWay(t *testing.T) {
	d := dice(4)
	stops := map[api.Stop]int{}
	for range 3000 {
		_, routines, source := made(&d)
		tape := []int{1, -2, 3, 0, 1 << 62}[:d.below(6)]
		if kind, line := hindsight.Check(source); kind != api.Fine {
			t.Fatalf("%s\nCheck = %d, %d", source, kind, line)
		}
		want := secondRunOf(routines, tape).moments
		stops[want[len(want)-1].Stop]++
		s := started(t, source, tape...)
		got := allMoments(t, s)
		for n := range max(len(got), len(want)) {
			if n >= len(got) || n >= len(want) {
				t.Fatalf("%s\nhas %d moments, want %d", source, len(got), len(want))
			}
			if !alike(got[n], want[n]) {
				t.Fatalf("%s\nover %v: moment %d is %+v, want %+v", source, tape, n, got[n], want[n])
			}
		}
		if n := d.below(len(want)); !s.Seek(n) || !alike(s.Now(), want[n]) {
			t.Fatalf("%s\nback at moment %d: %+v, want %+v", source, n, s.Now(), want[n])
		}
	}
	for stop := api.Done; stop <= api.Fuel; stop++ {
		if stops[stop] < 5 {
			t.Errorf("%d runs stopped by %s: too few to tell", stops[stop], stopName(stop))
		}
	}
	t.Log(stops)
}
