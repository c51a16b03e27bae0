package hindsight_test

import (
	"reflect"
	"strings"
	"testing"
	"unsafe"

	"hindsight/api"
	"hindsight/hindsight"
)

// answered is what Eval tells.
type answered struct {
	text string
	stop api.Stop
	kind api.Kind
	line int
}

func evaluated(s *hindsight.Session, expr string) answered {
	text, stop, kind, line := s.Eval(expr)
	return answered{text, stop, kind, line}
}

func value(text string) answered { return answered{text: text} }

func stopped(stop api.Stop) answered { return answered{stop: stop} }

func faulty(kind api.Kind, line int) answered { return answered{kind: kind, line: line} }

type evalCase struct {
	expr string
	want answered
}

// sample has a variable of each sort at moment 4.
const sample = "func f(x) { return x; } func none() { } func main() { var i = -7; var t = true; var s = \"né\"; var l = [4, [\"é\", []], false]; print 1; }"

// expectEvals asks at moment 4 of the sample, and looks whether something has
// changed; and whether Break finds of the faults what it must find.
func expectEvals(t *testing.T, cases []evalCase) {
	t.Helper()
	s := started(t, sample)
	s.Seek(4)
	before := s.Now()
	for _, c := range cases {
		if got := evaluated(s, c.expr); got != c.want {
			t.Errorf("Eval(%.120q) = %+v, want %+v", c.expr, got, c.want)
		}
		if now := s.Now(); !reflect.DeepEqual(now, before) {
			t.Fatalf("Eval(%.120q) changes %+v to %+v", c.expr, before, now)
		}
		kind, line := breakFault(c.expr, c.want)
		expectBreak(t, s, 1, c.expr, kind, line)
		expectClear(t, s, 1, kind == api.Fine)
	}
}

func TestEvalOfDocument(t *testing.T) {
	s := started(t, example)
	s.Seek(6)
	for _, c := range []evalCase{
		{"len(a) * 10 + b[0]", value("31")}, {"a[9]", stopped(api.Index)}, {"twice(1)", faulty(api.Name, 1)},
	} {
		if got := evaluated(s, c.expr); got != c.want {
			t.Errorf("Eval(%q) = %+v, want %+v", c.expr, got, c.want)
		}
	}
}

// TestEvalValues: values are told as they are written, a Str in its quotes.
func TestEvalValues(t *testing.T) {
	expectEvals(t, []evalCase{
		{"i", value("-7")}, {"t", value("true")}, {"s", value("\"né\"")}, {"l", value("[4, [\"é\", []], false]")},
		{"1", value("1")}, {"007", value("7")}, {"-0", value("0")}, {"9223372036854775807 + 1", value("-9223372036854775808")}, {"-(-9223372036854775807 - 1)", value("-9223372036854775808")}, {"(-9223372036854775807 - 1) / -1", value("-9223372036854775808")}, {"(-9223372036854775807 - 1) % -1", value("0")},
		{"false", value("false")}, {"\"true\"", value("\"true\"")}, {"\"\"", value("\"\"")}, {"\" \\n // \"", value("\" \\n // \"")}, {"[]", value("[]")}, {"[ [ ],1 ,\"\" ]", value("[[], 1, \"\"]")},
		{"i + 2 * 3 - 1", value("-2")}, {"i / 2", value("-3")}, {"i % 2", value("-1")}, {"i * i", value("49")}, {"-i", value("7")}, {"--i", value("-7")}, {"!t", value("false")}, {"!!t", value("true")}, {"(i)", value("-7")},
		{"i < 0", value("true")}, {"i <= -8", value("false")}, {"s < \"nz\"", value("false")}, {"s <= \"né\"", value("true")}, {"i == -7", value("true")}, {"i == \"-7\"", value("false")}, {"l != [4, [\"é\", []], false]", value("false")}, {"l == [4, [\"é\", [0]], false]", value("false")}, {"t == (1 == 1)", value("true")},
		{"s + \"!\"", value("\"né!\"")}, {"l + [s]", value("[4, [\"é\", []], false, \"né\"]")}, {"s[1]", value("\"é\"")}, {"l[1]", value("[\"é\", []]")}, {"l[1][0]", value("\"é\"")}, {"[l[2], l[0]][1]", value("4")}, {"l[len(s) - 1][0][0]", value("\"é\"")},
		{"len(s)", value("2")}, {"len(l)", value("3")}, {"len(\"\")", value("0")}, {"len([l, l])", value("2")}, {"len(l[1]) + len(s + s)", value("6")},
		{"t || 1 / 0 == 1", value("true")}, {"!t && i", value("false")}, {"t && i < 0", value("true")}, {"!t || !t", value("false")}, {"!t && !t || t", value("true")}, {"t || t && i", value("true")},
		{"\n\ti\n", value("-7")}, {"i//", value("-7")}, {"i// $ \" é\n", value("-7")}, {"// x\n(i // y\n)", value("-7")}, {"\"// i\"", value("\"// i\"")},
	})
}

func TestEvalStops(t *testing.T) {
	expectEvals(t, []evalCase{
		{"i / 0", stopped(api.Zero)}, {"i % 0", stopped(api.Zero)}, {"0 / (i + 7)", stopped(api.Zero)}, {"[1, [len(s) / 0]]", stopped(api.Zero)},
		{"s[2]", stopped(api.Index)}, {"s[-1]", stopped(api.Index)}, {"l[3]", stopped(api.Index)}, {"l[i]", stopped(api.Index)}, {"[][0]", stopped(api.Index)}, {"l[1][1][0]", stopped(api.Index)}, {"l[9223372036854775807]", stopped(api.Index)},
		{"i + s", stopped(api.Types)}, {"s + l", stopped(api.Types)}, {"t + t", stopped(api.Types)}, {"s - s", stopped(api.Types)}, {"l * 2", stopped(api.Types)}, {"s / 0", stopped(api.Types)}, {"0 % t", stopped(api.Types)}, {"t < t", stopped(api.Types)}, {"l <= l", stopped(api.Types)}, {"i < s", stopped(api.Types)},
		{"-s", stopped(api.Types)}, {"-t", stopped(api.Types)}, {"!i", stopped(api.Types)}, {"!l", stopped(api.Types)}, {"i || t", stopped(api.Types)}, {"s && t", stopped(api.Types)}, {"t && 1", stopped(api.Types)}, {"!t || l", stopped(api.Types)}, {"i[0]", stopped(api.Types)}, {"t[0]", stopped(api.Types)}, {"l[t]", stopped(api.Types)}, {"s[\"0\"]", stopped(api.Types)}, {"len(i)", stopped(api.Types)}, {"len(t)", stopped(api.Types)},
		{row(200), stopped(api.Large)}, {text(200), stopped(api.Large)}, {row(100) + "+" + row(100), stopped(api.Large)}, {"[" + row(99) + "," + row(99) + "]", stopped(api.Large)}, {"len(" + row(200) + ")", stopped(api.Large)},
		{row(199), value(strings.ReplaceAll(row(199), ",", ", "))}, {text(199), value("\"" + strings.Repeat("a", 199) + "\"")}, {row(99) + "+" + row(100), value(strings.ReplaceAll(row(199), ",", ", "))},
		// What comes first from the left stops.
		{"1 / 0 + s[9]", stopped(api.Zero)}, {"s[9] + 1 / 0", stopped(api.Index)}, {"-s + 1 / 0", stopped(api.Types)}, {"[l[9], -s]", stopped(api.Index)}, {"l[1 / 0][-s]", stopped(api.Zero)}, {"s + (1 / 0)", stopped(api.Zero)}, {"1 / 0 || i", stopped(api.Zero)}, {"i || 1 / 0", stopped(api.Types)}, {"t && 1 / 0", stopped(api.Zero)}, {"[" + row(150) + "," + row(150) + ", 1 / 0]", stopped(api.Zero)},
	})
}

func TestEvalForm(t *testing.T) {
	expectEvals(t, []evalCase{
		{"", faulty(api.Form, 1)}, {" ", faulty(api.Form, 1)}, {"\n", faulty(api.Form, 2)}, {"\n\n\t\n", faulty(api.Form, 4)}, {"//", faulty(api.Form, 1)}, {"// i\n", faulty(api.Form, 2)},
		{"1 +", faulty(api.Form, 1)}, {"1 +\n\n", faulty(api.Form, 3)}, {"(1", faulty(api.Form, 1)}, {"[1,\n", faulty(api.Form, 2)}, {"l[\n0\n", faulty(api.Form, 3)}, {"len(\ns", faulty(api.Form, 2)}, {"-", faulty(api.Form, 1)}, {"t ||\n//", faulty(api.Form, 2)},
		{"1 1", faulty(api.Form, 1)}, {"1\n2", faulty(api.Form, 2)}, {"i\ns\nl", faulty(api.Form, 2)}, {"1;", faulty(api.Form, 1)}, {"1\n\n;", faulty(api.Form, 3)}, {"1 )", faulty(api.Form, 1)}, {"(1)\n)", faulty(api.Form, 2)}, {"l[0]\n]", faulty(api.Form, 2)}, {"i,\ni", faulty(api.Form, 1)}, {"1 < 2\n< 3", faulty(api.Form, 2)}, {"1 == 2\n!= 3", faulty(api.Form, 2)}, {"i {", faulty(api.Form, 1)}, {"i\n}", faulty(api.Form, 2)}, {"t true", faulty(api.Form, 1)}, {"i \"\"", faulty(api.Form, 1)}, {"t\n!t", faulty(api.Form, 2)},
		{"* 2", faulty(api.Form, 1)}, {"1 + * 2", faulty(api.Form, 1)}, {"[1,]", faulty(api.Form, 1)}, {"[,]", faulty(api.Form, 1)}, {"len(,)", faulty(api.Form, 1)}, {"()", faulty(api.Form, 1)}, {"l[]", faulty(api.Form, 1)}, {"+1", faulty(api.Form, 1)}, {"1 = = 1", faulty(api.Form, 1)}, {"len(s)(0)", faulty(api.Form, 1)}, {"1(2)", faulty(api.Form, 1)},
		// statements, functions and programs
		{"i = 1", faulty(api.Form, 1)}, {"i\n= 1;", faulty(api.Form, 2)}, {"l[0] = 1", faulty(api.Form, 1)}, {"var x = 1;", faulty(api.Form, 1)}, {"\nprint i;", faulty(api.Form, 2)}, {"print i", faulty(api.Form, 1)}, {"return i;", faulty(api.Form, 1)}, {"return", faulty(api.Form, 1)}, {"if t { }", faulty(api.Form, 1)}, {"while t { }", faulty(api.Form, 1)}, {"else", faulty(api.Form, 1)}, {"len(s);", faulty(api.Form, 1)}, {"f(1);", faulty(api.Form, 1)}, {"{ }", faulty(api.Form, 1)}, {"{ i }", faulty(api.Form, 1)}, {"func", faulty(api.Form, 1)}, {"func main() { }", faulty(api.Form, 1)}, {example, faulty(api.Form, 1)},
	})
}

func TestEvalNames(t *testing.T) {
	expectEvals(t, []evalCase{
		{"x", faulty(api.Name, 1)}, {"\n\nx", faulty(api.Name, 3)}, {"i +\nx", faulty(api.Name, 2)}, {"[i,\nx\n, y]", faulty(api.Name, 2)}, {"l[\nx]", faulty(api.Name, 2)}, {"-x", faulty(api.Name, 1)}, {"len(\nx)", faulty(api.Name, 2)}, {"I", faulty(api.Name, 1)}, {"ii", faulty(api.Name, 1)}, {"truE", faulty(api.Name, 1)}, {"_", faulty(api.Name, 1)},
		// Names that are there, but not as variables.
		{"len", faulty(api.Name, 1)}, {"read", faulty(api.Name, 1)}, {"main", faulty(api.Name, 1)}, {"f", faulty(api.Name, 1)}, {"len[0]", faulty(api.Name, 1)}, {"len + len(s)", faulty(api.Name, 1)},
		// All functions but len, with as many values as they have and with others.
		{"f(1)", faulty(api.Name, 1)}, {"f()", faulty(api.Name, 1)}, {"none()", faulty(api.Name, 1)}, {"none(1)", faulty(api.Name, 1)}, {"main()", faulty(api.Name, 1)}, {"read()", faulty(api.Name, 1)}, {"read(1)", faulty(api.Name, 1)}, {"g()", faulty(api.Name, 1)}, {"i()", faulty(api.Name, 1)}, {"l(0)", faulty(api.Name, 1)}, {"\nlen(\nf(1))", faulty(api.Name, 3)}, {"len(read())", faulty(api.Name, 1)},
		{"len()", faulty(api.Count, 1)}, {"len(s, s)", faulty(api.Count, 1)}, {"\nlen\n(s\n,s)", faulty(api.Count, 2)}, {"len(len(\n\ns),\nlen())", faulty(api.Count, 1)}, {"len(\nlen())", faulty(api.Count, 2)}, {"[len(s),\nlen(s, s, s)]", faulty(api.Count, 2)},
		// The first token that is wrong, whichever way.
		{"x +\nlen()", faulty(api.Name, 1)}, {"len() +\nx", faulty(api.Count, 1)}, {"len(x,\ny)", faulty(api.Count, 1)}, {"f(\nlen())", faulty(api.Name, 1)}, {"f(\nx)", faulty(api.Name, 1)}, {"x[\ny]", faulty(api.Name, 1)}, {"i ||\nx && y", faulty(api.Name, 2)},
		// They are looked for in what is not worked out, too, and ahead of all that is.
		{"t || x", faulty(api.Name, 1)}, {"!t && len() == 0", faulty(api.Count, 1)}, {"1 / 0 + x", faulty(api.Name, 1)}, {"[1 / 0, -s,\nread()]", faulty(api.Name, 2)},
	})
}

func TestEvalTokens(t *testing.T) {
	expectEvals(t, []evalCase{
		{"$", faulty(api.Token, 1)}, {"\n\n$", faulty(api.Token, 3)}, {"1 & 2", faulty(api.Token, 1)}, {"1 > 2", faulty(api.Token, 1)}, {"i |\n| t", faulty(api.Token, 1)}, {"é", faulty(api.Token, 1)}, {"\r", faulty(api.Token, 1)}, {"'a'", faulty(api.Token, 1)}, {"1.5", faulty(api.Token, 1)}, {"\x00", faulty(api.Token, 1)},
		{"\"", faulty(api.Token, 1)}, {"\n\"a", faulty(api.Token, 2)}, {"\"a\n\"", faulty(api.Token, 1)}, {"\"a\"b\"", faulty(api.Token, 1)},
		{strings.Repeat("x", api.MaxName), faulty(api.Name, 1)}, {strings.Repeat("x", api.MaxName+1), faulty(api.Token, 1)},
		{"\"" + strings.Repeat("x", api.MaxString) + "\"", value("\"" + strings.Repeat("x", api.MaxString) + "\"")}, {"\"" + strings.Repeat("x", api.MaxString+1) + "\"", faulty(api.Token, 1)}, {"\"" + strings.Repeat("é", api.MaxString/2) + "x\"", faulty(api.Token, 1)},
		{"9223372036854775807", value("9223372036854775807")}, {"9223372036854775808", faulty(api.Token, 1)}, {"-9223372036854775808", faulty(api.Token, 1)}, {strings.Repeat("0", 100) + "9223372036854775807", value("9223372036854775807")}, {"1" + strings.Repeat("0", 100), faulty(api.Token, 1)},
	})
}

func TestEvalEncoding(t *testing.T) {
	var cases []evalCase
	for _, bad := range []string{"\x80", "\xc0\x80", "\xc3", "\xe2\x82", "\xed\xa0\x80", "\xf0\x9f\x98", "\xf4\x90\x80\x80", "\xff"} {
		cases = append(cases,
			evalCase{bad, faulty(api.Encoding, 1)}, evalCase{"i\n" + bad, faulty(api.Encoding, 2)}, evalCase{"\"é\n\n" + bad + "\"", faulty(api.Encoding, 3)}, evalCase{"i // \n//" + bad, faulty(api.Encoding, 2)})
	}
	for _, good := range []string{"\x00", "\u0080", "\u07ff", "\ud7ff", "\ue000", "\ufeff", "\ufffd", "\U00010000", "\U0010ffff"} {
		cases = append(cases, evalCase{"\"" + good + "\"", value("\"" + good + "\"")}, evalCase{"len(\"" + good + "\") // " + good, value("1")})
	}
	expectEvals(t, cases)
}

func pad(expr string, size int) string { return expr + strings.Repeat(" ", size-len(expr)) }

// nested uses up so many bytes for one thing.
func nested(opening, middle, closing string, size int) string {
	count := (size - len(middle)) / (len(opening) + len(closing))
	return pad(strings.Repeat(opening, count)+middle+strings.Repeat(closing, count), size)
}

func TestEvalLong(t *testing.T) {
	const most = api.MaxSource
	expectEvals(t, []evalCase{
		{pad("i", most-1), value("-7")}, {pad("i", most), value("-7")}, {pad("i", most+1), faulty(api.Long, 0)},
		{strings.Repeat("\n", most), faulty(api.Form, most+1)}, {strings.Repeat("\n", most+1), faulty(api.Long, 0)}, {strings.Repeat("\n", most-1) + "i", value("-7")}, {strings.Repeat("\n", most-1) + "x", faulty(api.Name, most)}, {strings.Repeat("\n", most-1) + "$", faulty(api.Token, most)}, {strings.Repeat("\n", most-1) + "\xff", faulty(api.Encoding, most)},
		{"i//" + strings.Repeat("é", most/2-2), value("-7")}, {"i//" + strings.Repeat("é", most/2-1), faulty(api.Long, 0)},
		{strings.Repeat("(", most), faulty(api.Form, 1)}, {strings.Repeat("\xff", most), faulty(api.Encoding, 1)}, {strings.Repeat("\xff", most+1), faulty(api.Long, 0)}, {strings.Repeat("$", most+1), faulty(api.Long, 0)}, {strings.Repeat("x", 5000000), faulty(api.Long, 0)},
		// texts that use up their bytes for one thing
		{nested("(", "i", ")", most), value("-7")}, {nested("(", "i", ")", most+1), faulty(api.Long, 0)}, {nested("--", "i", "", most), value("-7")}, {nested("!!", "t", "", most), value("true")}, {nested("[", "i", "]", most), stopped(api.Large)}, {nested("l[", "0", "]", most), stopped(api.Index)}, {nested("", "s", "[0]", most), value("\"n\"")}, {nested("len([", "i", "])", most), value("1")}, {nested("", "l", "+l", most), stopped(api.Large)}, {nested("", "0", "+1", most), value("999")}, {nested("!t||", "t", "", most), value("true")}, {nested("t&&", "t", "", most), value("true")}, {"[l" + nested("", "", ",l", most-3) + "]", stopped(api.Large)},
	})
}

// TestEvalOrder: which kind of fault is told, where there are several.
func TestEvalOrder(t *testing.T) {
	long := strings.Repeat(" ", api.MaxSource)
	expectEvals(t, []evalCase{
		{"x 1 $ \xff" + long, faulty(api.Long, 0)}, {"x 1\n$\n\xff", faulty(api.Encoding, 3)}, {"x 1\n$", faulty(api.Token, 2)}, {"x\n1", faulty(api.Form, 2)}, {"x\n+ len()", faulty(api.Name, 1)}, {"len() +\n1 / 0", faulty(api.Count, 1)},
		{"1 1\n1 1\n$", faulty(api.Token, 3)}, {"$\n\xff", faulty(api.Encoding, 2)}, {"len()\n;", faulty(api.Form, 2)}, {"x +\n1 +", faulty(api.Form, 2)},
	})
}

// TestEvalSeen: the variables at each moment are those that Now tells, and no
// others, with the values that it tells.
func TestEvalSeen(t *testing.T) {
	names := []string{"a", "b", "c", "d", "n", "m", "f", "g", "main", "len", "read", "x", "_", "A", "a1"}
	for _, source := range append([]string{
		"func main() { var b = 1; if true { var a = 2; if true { var c = 3; c = 4; } var A = 5; a = 6; } var a = \"x\"; while a == \"x\" { var d = [b]; a = \"y\"; } var _ = true; var a1 = 7; return; }",
		"func f(n, a) { var m = n; if 0 < m { m = m + f(n - 1, m); } return m; } func main() { var n = 9; var x = f(2, n); print x; }",
		// a variable that has the name of a function
		"func f(f) { return f; } func g(main) { var g = f(main); return g; } func main() { var f = g(1); var main = f; print main; }",
		// at stops: in the value of a variable, in a loop's condition, within a call, at the last moment
		"func main() { var a = 1; var b = a / 0; var c = 1; }", "func main() { var a = 2; while 0 < 4 / a { var b = a; a = a - 1; } }",
		"func f(a) { if true { var b = a; print b[0]; } } func main() { var c = 1; var a = [5]; f(a); f(c); }", "func f(a) { f([a]); } func main() { f(0); }",
		"func main() { var a = [1]; while true { var b = a; a = [len(b)]; } }", "func g(a) { var x = a; return x; } func main() { var a = []; a[g(0)] = g(1); }",
	}, callPrograms...) {
		s := started(t, source, 1, 2, 3)
		for n := 0; s.Seek(n); n++ {
			seen := map[string]string{}
			for _, v := range s.Now().Vars {
				seen[v.Name] = v.Value
			}
			for _, name := range names {
				want := faulty(api.Name, 2)
				if written, ok := seen[name]; ok {
					want = value(written)
				}
				if got := evaluated(s, "\n"+name); got != want {
					t.Fatalf("%s\nat moment %d Eval(%q) = %+v, want %+v", source, n, name, got, want)
				}
			}
		}
	}
}

// TestEvalWithoutFrame: when main has ended there is no variable, but all else.
func TestEvalWithoutFrame(t *testing.T) {
	for _, source := range []string{"func main() { }", "func main() { var a = 1; }", "func main() { var a = 1; return a; }", "func f(a) { print a; } func main() { f(1); }", "func main(){ if read() == 1 { main(); } var a = 1; }"} {
		s := started(t, source, 1, 2)
		for s.Step() {
		}
		if m := s.Now(); len(m.Stack) > 0 || m.Stop != api.Done {
			t.Fatalf("%s\nthe last moment is %q", source, shown(m))
		}
		for _, c := range []evalCase{
			{"1 + 1", value("2")}, {"[1, \"é\"]", value("[1, \"é\"]")}, {"len(\"né\")", value("2")}, {"true && !false", value("true")}, {"1 / 0", stopped(api.Zero)}, {"-true", stopped(api.Types)}, {"[][0]", stopped(api.Index)}, {row(200), stopped(api.Large)},
			{"a", faulty(api.Name, 1)}, {"1 +\na", faulty(api.Name, 2)}, {"f(1)", faulty(api.Name, 1)}, {"main()", faulty(api.Name, 1)}, {"read()", faulty(api.Name, 1)}, {"len()", faulty(api.Count, 1)}, {"", faulty(api.Form, 1)}, {"$", faulty(api.Token, 1)},
		} {
			if got := evaluated(s, c.expr); got != c.want {
				t.Errorf("%s\nEval(%q) = %+v, want %+v", source, c.expr, got, c.want)
			}
		}
	}
}

// askedOften are expressions of every kind of answer.
var askedOften = []string{"a", "a + a", "[a, n, x]", "len(a)", "a[0]", "a[0] / 0", "-a", row(200), "read()", "f(1)", "len()", "", "1 1", "$", "\xff", "1", "\nx", "n * 2", "x == 1", "print a;"}

// TestEvalChangesNothing: a run of which every moment is asked is the same as
// one of which none is; so is each answer when it is asked for again.
func TestEvalChangesNothing(t *testing.T) {
	for _, source := range append([]string{"func f(a) { a[0] = read(); return a + a; } func main() { var a = [0]; while true { a = f([len(a)]); print a; } }"}, callPrograms...) {
		moments := allMoments(t, started(t, source, 1, 2, 3))
		s := started(t, source, 1, 2, 3)
		first := map[int][]answered{}
		ask := func(n int) {
			for i, expr := range askedOften {
				s.Since(expr)
				a := evaluated(s, expr)
				if len(first[n]) == i {
					first[n] = append(first[n], a)
				}
				if first[n][i] != a {
					t.Fatalf("%s\nat moment %d Eval(%q) was %+v, and is %+v", source, n, expr, first[n][i], a)
				}
			}
			if now := s.Now(); !alike(now, moments[n]) {
				t.Fatalf("%s\nmoment %d is %+v, want %+v", source, n, now, moments[n])
			}
		}
		count := min(len(moments), 60)
		for n := 0; n < count; n, _ = n+1, s.Step() {
			ask(n)
		}
		s.Seek(count - 1)
		for n := count - 1; n >= 0; n, _ = n-1, s.Back() {
			ask(n)
		}
		s.Seek(len(moments) - 1)
		ask(len(moments) - 1)
	}
}

// TestEvalTextIsNotKept: no answer is a piece of the text that was handed in.
func TestEvalTextIsNotKept(t *testing.T) {
	s := started(t, sample)
	s.Seek(4)
	for expr, want := range map[string]string{"\"abc\"": "\"abc\"", "[\"abc\"]": "[\"abc\"]", "\"abc\"[1]": "\"b\"", "123456": "123456", "\"a\" + \"\"": "\"a\""} {
		bytes := []byte(expr)
		handed := unsafe.String(&bytes[0], len(bytes))
		got := evaluated(s, handed)
		s.Since(handed)
		if string(bytes) != expr {
			t.Errorf("the text %q has become %q", expr, bytes)
		}
		for i := range bytes {
			bytes[i] = '?'
		}
		if got != value(want) {
			t.Errorf("what Eval(%q) told has become %+v", expr, got)
		}
	}
	for _, v := range []string{"-7", "true", "\"né\"", "[4, [\"é\", []], false]"} {
		if got := evaluated(s, v); got != value(v) {
			t.Errorf("Eval(%q) = %+v", v, got)
		}
	}
}

func TestEvalFormAgainstRules(t *testing.T) {
	s := started(t, sample)
	s.Seek(4)
	expectForms(t, "expr", 6, 60, func(text string) (api.Kind, int) {
		a := evaluated(s, text)
		return a.kind, a.line
	})
}
