package syntax

import (
	"strconv"
	"strings"
	"testing"

	"hindsight/api"
)

// show writes a node with all its brackets, so that a test sees what binds
// to what.
func show(n Node) string {
	switch n := n.(type) {
	case Declare:
		return "var " + n.Name.Text + " = " + show(n.Value)
	case Assign:
		return n.Text + indices(n.Indices) + " = " + show(n.Value)
	case If:
		return "if " + show(n.Condition) + block(n.Then) + " else" + block(n.Else)
	case While:
		return "while " + show(n.Condition) + block(n.Body)
	case Return:
		return "return " + show(n.Value)
	case Print:
		return "print " + show(n.Value)
	case Call:
		return n.Text + "(" + list(n.Values) + ")"
	case Variable:
		return n.Text
	case Number:
		return strconv.FormatInt(n.Value, 10)
	case String:
		return strconv.Quote(n.Text)
	case Bool:
		return strconv.FormatBool(n.Value)
	case List:
		return "[" + list(n.Values) + "]"
	case Index:
		return "(" + show(n.Whole) + ")[" + show(n.At) + "]"
	case Unary:
		return "(" + n.Operator + show(n.Operand) + ")"
	case Binary:
		return "(" + show(n.Left) + " " + n.Operator + " " + show(n.Right) + ")"
	}
	return "?"
}

func list(nodes []Node) string {
	var shown []string
	for _, n := range nodes {
		shown = append(shown, show(n))
	}
	return strings.Join(shown, ", ")
}

func indices(nodes []Node) string {
	var shown string
	for _, n := range nodes {
		shown += "[" + show(n) + "]"
	}
	return shown
}

func block(nodes []Node) string {
	var shown string
	for _, n := range nodes {
		shown += " " + show(n) + ";"
	}
	return " {" + shown + " }"
}

// bodyOf reads statements that may use a, b, f(x) and g(x, y).
func bodyOf(statements string) []Node {
	return Read("func main() { } func f(x) { } func g(x, y) { } func h(a, b) {" + statements + "}")[3].Body
}

func TestExpressions(t *testing.T) {
	for _, c := range []struct{ source, want string }{
		{"1 + 2 + 3", "((1 + 2) + 3)"},
		{"1 - 2 - 3 + 4", "(((1 - 2) - 3) + 4)"},
		{"1 / 2 * 3 % 4", "(((1 / 2) * 3) % 4)"},
		{"1 + 2 * 3", "(1 + (2 * 3))"},
		{"(1 + 2) * 3", "((1 + 2) * 3)"},
		{"1 || 2 && 3 || 4", "((1 || (2 && 3)) || 4)"},
		{"1 && 2 && 3", "((1 && 2) && 3)"},
		{"1 + 2 < 3 + 4 && 5 == 6", "(((1 + 2) < (3 + 4)) && (5 == 6))"},
		{"1 <= 2", "(1 <= 2)"},
		{"1 != 2", "(1 != 2)"},
		{"- ! -1", "(-(!(-1)))"},
		{"-1 * -2", "((-1) * (-2))"},
		{"-a[1]", "(-(a)[1])"},
		{"a[1][2]", "((a)[1])[2]"},
		{"[1, [2], []][0]", "([1, [2], []])[0]"},
		{"\"é // \"[1]", "(\"é // \")[1]"},
		{"g(f(1), a + b)", "g(f(1), (a + b))"},
		{"f(a)[0]", "(f(a))[0]"},
		{"read()", "read()"},
		{"true == false", "(true == false)"},
		{"0009223372036854775807", "9223372036854775807"},
		{"\"\"", "\"\""},
	} {
		if got := show(bodyOf("print " + c.source + ";")[0]); got != "print "+c.want {
			t.Errorf("%s is read as %s, want %s", c.source, got, c.want)
		}
	}
}

func TestStatements(t *testing.T) {
	for _, c := range []struct{ source, want string }{
		{"var x = a;", "{ var x = a; }"},
		{"a = 1; a[0] = 2; a[1][b] = 3;", "{ a = 1; a[0] = 2; a[1][b] = 3; }"},
		{"if a { f(1); } f(2);", "{ if a { f(1); } else { }; f(2); }"},
		{"if a { } else { if b { } else { f(1); } }", "{ if a { } else { if b { } else { f(1); }; }; }"},
		{"while a < b { a = a + 1; return; }", "{ while (a < b) { a = (a + 1); return 0; }; }"},
		{"return -a;", "{ return (-a); }"},
		{"g(1, [2, 3]);", "{ g(1, [2, 3]); }"},
	} {
		if got := block(bodyOf(c.source)); got != " "+c.want {
			t.Errorf("%s is read as%s, want %s", c.source, got, c.want)
		}
	}
}

func TestFunctions(t *testing.T) {
	program := Read("func main() { }\nfunc\nf(a,\nb) { return; }")
	if len(program) != 2 || program[0].Name.Text != "main" || program[0].Parameters != nil || program[0].Body != nil {
		t.Fatalf("program: %v", program)
	}
	f := program[1]
	if f.Name != (Name{Place{3}, "f"}) || len(f.Parameters) != 2 || f.Parameters[0] != (Name{Place{3}, "a"}) || f.Parameters[1] != (Name{Place{4}, "b"}) {
		t.Errorf("function: %v", f)
	}
}

// TestLines: a node is at its first token, wherever its other tokens stand.
func TestLines(t *testing.T) {
	body := bodyOf("\nvar\nx\n=\na\n+\nb;\nx\n= 1; f\n(1); if\na { }\nwhile a { } print\n-\na; return\n; return (\n(\n[1\n])\n[0]);")
	want := []int{2, 8, 9, 10, 12, 12, 14, 15}
	if len(body) != len(want) {
		t.Fatalf("%d statements", len(body))
	}
	for i, n := range body {
		if n.Line() != want[i] {
			t.Errorf("statement %d is at line %d, want %d", i, n.Line(), want[i])
		}
	}
	if d := body[0].(Declare); d.Name.Line() != 3 || d.Value.Line() != 5 || d.Value.(Binary).Right.Line() != 7 {
		t.Errorf("declaration: %v", d)
	}
	if u := body[5].(Print).Value.(Unary); u.Line() != 13 || u.Operand.Line() != 14 {
		t.Errorf("unary: %v", u)
	}
	if i := body[7].(Return).Value.(Index); i.Line() != 16 || i.Whole.Line() != 17 || i.At.Line() != 19 {
		t.Errorf("index: %v", i)
	}
}

func expectFault(t *testing.T, want Fault, read func()) {
	t.Helper()
	defer func() {
		if given := recover(); given != want {
			t.Errorf("it gave up with %v, want %v", given, want)
		}
	}()
	read()
}

func TestReadGivesUpWithFault(t *testing.T) {
	expectFault(t, Fault{api.Name, 2}, func() { Read("func main() {\nx = 1; }") })
}

// TestReadExpr: which names there are is not asked.
func TestReadExpr(t *testing.T) {
	for _, c := range []struct{ text, want string }{
		{"1", "1"}, {"\nx + f(1, 2) // y", "(x + f(1, 2))"}, {"-a[0] < len() || read", "(((-(a)[0]) < len()) || read)"}, {"[true, \"é\"]", "[true, \"é\"]"},
	} {
		if got := show(ReadExpr(c.text)); got != c.want {
			t.Errorf("%q is read as %s, want %s", c.text, got, c.want)
		}
	}
	for text, want := range map[string]Fault{
		strings.Repeat(" ", api.MaxSource+1): {api.Long, 0}, "1\n\xff": {api.Encoding, 2}, "1 1\n$": {api.Token, 2}, "": {api.Form, 1}, "1\n;": {api.Form, 2}, "f(1)\n\nf": {api.Form, 3}, "x = 1": {api.Form, 1},
	} {
		expectFault(t, want, func() { ReadExpr(text) })
	}
}

func TestCheckExpr(t *testing.T) {
	seen := []string{"a", "b"}
	for _, text := range []string{"1", "a", "[a, b][len(a)]", "-len([b]) == a && true"} {
		CheckExpr(ReadExpr(text), seen)
	}
	for text, want := range map[string]Fault{
		"c": {api.Name, 1}, "a + b\n+ c + len()": {api.Name, 2}, "\nlen()": {api.Count, 2}, "len(c, a)": {api.Count, 1}, "read()": {api.Name, 1}, "main()": {api.Name, 1}, "a(1)": {api.Name, 1}, "len": {api.Name, 1},
	} {
		expectFault(t, want, func() { CheckExpr(ReadExpr(text), seen) })
	}
	expectFault(t, Fault{api.Name, 1}, func() { CheckExpr(ReadExpr("a"), nil) })
	if seen[0] != "a" || seen[1] != "b" {
		t.Errorf("the names have become %v", seen)
	}
}
