package hindsight_test

import (
	"strconv"
	"strings"
	"testing"

	"hindsight/api"
)

// helpers stand ahead of main in the programs of this file: say shows when a
// value is worked out.
const helpers = "func say(x) { print x; return x; } func none() { } func two(a, b) { return [a, b]; }\n"

// row writes a list of so many values, of one cell each.
func row(count int) string {
	return "[" + strings.TrimSuffix(strings.Repeat("0,", count), ",") + "]"
}

// text writes a Str of so many bytes, which may be more than a source can hold
// in one string.
func text(size int) string {
	parts := []string{"\"\""}
	for ; size > 0; size -= api.MaxString {
		parts = append(parts, "\""+strings.Repeat("a", min(size, api.MaxString))+"\"")
	}
	return "(" + strings.Join(parts, " + ") + ")"
}

// runCase is what main's statements print, and how the run stops.
type runCase struct {
	statements string
	printed    string // with / between the lines
	stop       api.Stop
}

func expectRuns(t *testing.T, cases []runCase, tape ...int) {
	t.Helper()
	for _, c := range cases {
		all := allMoments(t, started(t, helpers+in(c.statements), tape...))
		last := all[len(all)-1]
		if got := strings.Join(last.Output, "/"); got != c.printed || last.Stop != c.stop {
			t.Errorf("%s\nprints %q and stops by %s, want %q, %s", c.statements, got, stopName(last.Stop), c.printed, stopName(c.stop))
		}
	}
}

// printing is a run that prints one value and is done.
func printing(expr, printed string) runCase {
	return runCase{"print " + expr + ";", printed, api.Done}
}

// stopping is a run that prints nothing, since an expression stops it.
func stopping(expr string, stop api.Stop) runCase {
	return runCase{"print " + expr + ";", "", stop}
}

func TestTexts(t *testing.T) {
	expectRuns(t, []runCase{
		printing("0", "0"), printing("007", "7"), printing("-12", "-12"), printing("0 - 5", "-5"),
		printing("9223372036854775807", "9223372036854775807"),
		printing("true", "true"), printing("false", "false"), printing("\"né\"", "né"), printing("\"\"", ""),
		printing("\" \\n'\t// \"", " \\n'\t// "), printing("\"-1\"", "-1"),
		printing("[]", "[]"), printing("[1]", "[1]"), printing("[1, 2, -3]", "[1, 2, -3]"), printing("[[]]", "[[]]"),
		printing("[\"né\", true, [\"\", [false]], 0]", "[\"né\", true, [\"\", [false]], 0]"),
		printing("[\"a, b\", \"\\\"]", "[\"a, b\", \"\\\"]"),
		{"print 1; print \"\"; print [\"\"]; print 2;", "1//[\"\"]/2", api.Done},
	})
}

func TestInts(t *testing.T) {
	const least = "(-9223372036854775807 - 1)"
	expectRuns(t, []runCase{
		printing("9223372036854775807 + 1", "-9223372036854775808"), printing(least+" - 1", "9223372036854775807"),
		printing(least+" + "+least, "0"), printing("9223372036854775807 + 9223372036854775807", "-2"),
		printing("9223372036854775807 * 2", "-2"), printing("9223372036854775807 * 9223372036854775807", "1"),
		printing("4294967296 * 4294967296", "0"), printing("3037000500 * 3037000500", "-9223372036709301616"),
		printing(least+" * -1", "-9223372036854775808"), printing(least+" / -1", "-9223372036854775808"),
		printing(least+" % -1", "0"), printing("-"+least, "-9223372036854775808"), printing("- - "+least, "-9223372036854775808"),
		printing("0 - "+least, "-9223372036854775808"), printing(least+" / 2", "-4611686018427387904"),
		printing("7 / 2", "3"), printing("-7 / 2", "-3"), printing("7 / -2", "-3"), printing("-7 / -2", "3"),
		printing("7 % 2", "1"), printing("-7 % 2", "-1"), printing("7 % -2", "1"), printing("-7 % -2", "-1"),
		printing("0 / 5", "0"), printing("0 % -5", "0"), printing("5 / 7", "0"), printing("-5 / 7", "0"), printing("5 % 7", "5"), printing("-5 % 7", "-5"),
		printing("9007199254740993 / 1", "9007199254740993"), printing("9007199254740993 * 3", "27021597764222979"),
		printing("8 - 3 - 2", "3"), printing("100 / 10 / 5", "2"), printing("2 + 3 * 4 % 5 - 1", "3"), printing("-2 * 3 + -4", "-10"), printing("(2 + 3) * 4", "20"),
		printing("1 < 2", "true"), printing("2 < 2", "false"), printing("3 < 2", "false"), printing("-1 < 0", "true"), printing(least+" < 9223372036854775807", "true"),
		printing("1 <= 2", "true"), printing("2 <= 2", "true"), printing("3 <= 2", "false"), printing("9223372036854775807 <= "+least, "false"),
		stopping("1 / 0", api.Zero), stopping("1 % 0", api.Zero), stopping("0 / 0", api.Zero), stopping("0 % 0", api.Zero), stopping("1 / (2 - 2)", api.Zero), stopping(least+" % -0", api.Zero),
	})
}

func TestStrs(t *testing.T) {
	expectRuns(t, []runCase{
		printing("\"a\" + \"\" + \"né\"", "ané"), printing("\"1\" + \"2\"", "12"),
		printing("\"a\" < \"b\"", "true"), printing("\"b\" < \"a\"", "false"), printing("\"a\" < \"a\"", "false"), printing("\"a\" <= \"a\"", "true"),
		printing("\"\" < \"a\"", "true"), printing("\"a\" < \"\"", "false"), printing("\"ab\" < \"b\"", "true"), printing("\"a\" < \"ab\"", "true"), printing("\"Z\" < \"a\"", "true"), printing("\"10\" < \"9\"", "true"),
		// Byte by byte, not by the alphabet, and not by units of 16 bits.
		printing("\"z\" < \"é\"", "true"), printing("\"é\" <= \"z\"", "false"), printing("\"\uffff\" < \"\U0001F600\"", "true"), printing("\"\U0001F600\" <= \"\uffff\"", "false"),
		printing("len(\"\")", "0"), printing("len(\"a\")", "1"), printing("len(\"né日\U0001F600\")", "4"), printing("len(\"\ufffd\x00\")", "2"), printing("len(\"e\u0301\")", "2"),
		printing("\"né日\U0001F600\"[0]", "n"), printing("\"né日\U0001F600\"[1]", "é"), printing("\"né日\U0001F600\"[2]", "日"), printing("\"né日\U0001F600\"[3]", "\U0001F600"),
		printing("\"a\ufffdb\"[1]", "\ufffd"), printing("\"a\ufffdb\"[2]", "b"), printing("[\"né\"[1]]", "[\"é\"]"), printing("\"né\"[1][0][0]", "é"), printing("len(\"日\"[0])", "1"),
		stopping("\"né\"[2]", api.Index), stopping("\"né\"[-1]", api.Index), stopping("\"\"[0]", api.Index), stopping("\"日\"[1]", api.Index),
		stopping("\"a\"[9223372036854775807]", api.Index), stopping("\"a\"[4294967296]", api.Index),
		{"var s = \"né\"; var i = 0; while i < len(s) { print s[i]; i = i + 1; }", "n/é", api.Done},
	})
}

func TestLists(t *testing.T) {
	expectRuns(t, []runCase{
		printing("[1] + [2, 3]", "[1, 2, 3]"), printing("[] + []", "[]"), printing("[1] + [[2]]", "[1, [2]]"), printing("[1] + [] + [\"a\"]", "[1, \"a\"]"),
		printing("[1, [2, 3]][1]", "[2, 3]"), printing("[1, [2, 3]][1][0]", "2"), printing("[\"né\"][0][1]", "é"), printing("[5, 6, 7][2]", "7"),
		printing("len([])", "0"), printing("len([[1, 2], 3])", "2"), printing("len([1] + [1])", "2"),
		stopping("[][0]", api.Index), stopping("[1][1]", api.Index), stopping("[1][-1]", api.Index), stopping("[1][9223372036854775807]", api.Index), stopping("[1, 2][4294967296]", api.Index),
		stopping("[1][-9223372036854775807 - 1]", api.Index), stopping("[[1]][0][1]", api.Index),
	})
}

func TestEqual(t *testing.T) {
	alikes := []string{"1", "2", "true", "false", "\"1\"", "\"true\"", "\"\"", "[]", "[1]", "[1, 2]", "[2, 1]", "[[1], 2]", "[[1, 2]]", "[\"1\"]", "[true]", "[[]]", "\"[]\"", "0", "[1, 2, 3]"}
	var cases []runCase
	for i, a := range alikes {
		for j, b := range alikes {
			cases = append(cases,
				printing(a+" == "+b, strconv.FormatBool(i == j)), printing(a+" != "+b, strconv.FormatBool(i != j)))
		}
	}
	expectRuns(t, append(cases,
		printing("[1, [2, \"né\"]] == [0 + 1] + [[2, \"n\" + \"é\"]]", "true"), printing(text(199)+" == "+text(199), "true"), printing(text(199)+" == "+text(198), "false"), printing(row(199)+" == "+row(199), "true"), printing(row(199)+" != "+row(198), "true"),
		printing("1 == 0 - -1", "true"), printing("(1 == 1) == true", "true"), printing("(1 < 2) != (2 < 1)", "true")))
}

// sorts has a value of each sort.
var sorts = []struct{ sort, value string }{{"Int", "7"}, {"Bool", "true"}, {"Str", "\"ab\""}, {"List", "[4, 5]"}}

// TestOperandSorts: every operator with every two sorts.
func TestOperandSorts(t *testing.T) {
	results := map[string]string{
		"Int + Int": "14", "Str + Str": "abab", "List + List": "[4, 5, 4, 5]", "Int - Int": "0", "Int * Int": "49", "Int / Int": "1", "Int % Int": "0",
		"Int < Int": "false", "Str < Str": "false", "Int <= Int": "true", "Str <= Str": "true", "Bool && Bool": "true", "Bool || Bool": "true",
		"Bool || Int": "true", "Bool || Str": "true", "Bool || List": "true", // the right one is not worked out
	}
	for _, operator := range []string{"+", "-", "*", "/", "%", "<", "<=", "&&", "||"} {
		for _, a := range sorts {
			for _, b := range sorts {
				c := stopping(a.value+" "+operator+" "+b.value, api.Types)
				if result, ok := results[a.sort+" "+operator+" "+b.sort]; ok {
					c = printing(a.value+" "+operator+" "+b.value, result)
				}
				expectRuns(t, []runCase{c})
			}
		}
	}
}

func TestSortsOfOneOperand(t *testing.T) {
	results := map[string]string{"-Int": "-7", "!Bool": "false", "lenStr": "2", "lenList": "2", "StrInt": "b", "ListInt": "5"}
	may := func(expr, key string) runCase {
		if result, ok := results[key]; ok {
			return printing(expr, result)
		}
		return stopping(expr, api.Types)
	}
	var cases []runCase
	for _, a := range sorts {
		cases = append(cases, may("-"+a.value, "-"+a.sort), may("!"+a.value, "!"+a.sort), may("len("+a.value+")", "len"+a.sort))
		for _, at := range []struct{ sort, value string }{{"Int", "1"}, {"Bool", "true"}, {"Str", "\"1\""}, {"List", "[1]"}} {
			cases = append(cases, may(a.value+"["+at.value+"]", a.sort+at.sort))
		}
		if a.sort != "Bool" {
			cases = append(cases, runCase{"print 1; if " + a.value + " { print 2; } else { print 3; } print 4;", "1", api.Types},
				runCase{"print 1; while " + a.value + " { print 2; } print 3;", "1", api.Types})
		}
	}
	expectRuns(t, append(cases, printing("!!true", "true"), printing("!false", "true"), printing("- - -5", "-5"), stopping("true / 0", api.Types), stopping("1 % \"\"", api.Types), stopping("[] / 0", api.Types)))
}

func TestShortcuts(t *testing.T) {
	expectRuns(t, []runCase{
		printing("false && 1 / 0 == 1", "false"), printing("true || 1 / 0 == 1", "true"), printing("false && 1", "false"), printing("true || 1", "true"),
		stopping("true && 1 / 0 == 1", api.Zero), stopping("false || 1 / 0 == 1", api.Zero), stopping("true && 0", api.Types), stopping("false || \"true\"", api.Types),
		stopping("1 && 1 / 0 == 1", api.Types), stopping("1 || 1 / 0 == 1", api.Types), stopping("0 && true", api.Types), stopping("[] || true", api.Types),
		printing("true && true", "true"), printing("true && false", "false"), printing("false || false", "false"), printing("false || true", "true"),
		printing("false && true || true", "true"), printing("true || true && 1 / 0 == 1", "true"), printing("false && false || true && true", "true"), printing("(true || false) && false", "false"),
		{"print say(false) && say(true) && say(true);", "false/false", api.Done}, {"print say(true) && say(false) && say(true);", "true/false/false", api.Done},
		{"print say(true) || say(false) || say(true);", "true/true", api.Done}, {"print say(false) || say(false) || say(true);", "false/false/true/true", api.Done},
		{"print say(true) && say(1);", "true/1", api.Types}, {"print say(1) && say(true);", "1", api.Types}, {"print say(1) || say(true);", "1", api.Types},
		{"print (say(true) || say(1)) && say(false);", "true/false/false", api.Done}, {"var a = say(false) && say(1) || say(true); print a;", "false/true/true", api.Done},
	})
}

// TestOrder: operands are worked out from left to right, all of them, before
// anything is asked of them.
func TestOrder(t *testing.T) {
	var cases []runCase
	for _, operator := range []string{"==", "!=", "<", "<=", "+", "-", "*", "/", "%"} {
		cases = append(cases, runCase{"var a = say(1) " + operator + " say(2);", "1/2", api.Done})
		if operator != "==" && operator != "!=" {
			cases = append(cases, runCase{"var a = say(true) " + operator + " say(0);", "true/0", api.Types}, stopping("true "+operator+" (1 / 0)", api.Zero))
		}
	}
	expectRuns(t, append(cases, []runCase{
		{"print say(1) - say(2) * say(3);", "1/2/3/-5", api.Done}, {"print (say(1) - say(2)) * say(3);", "1/2/3/-3", api.Done}, {"print say(6) / say(0) + say(1);", "6/0", api.Zero},
		{"print [say(1), say([2]), say(\"3\")];", "1/[2]/3/[1, [2], \"3\"]", api.Done}, {"print [say(1), 1 / 0, say(2)];", "1", api.Zero},
		{"print two(say(1), say(2));", "1/2/[1, 2]", api.Done}, {"print two(two(say(1), say(2)), say(3));", "1/2/3/[[1, 2], 3]", api.Done}, {"two(say(1), say(2) + true);", "1/2", api.Types},
		{"print say([5, 6])[say(1)];", "[5, 6]/1/6", api.Done}, {"print say(5)[say(1)];", "5/1", api.Types}, stopping("5[1 / 0]", api.Zero), stopping("[1][1 / 0]", api.Zero), stopping("[1][true]", api.Types), stopping("5[true]", api.Types),
		{"var a = [[1], 2]; a[say(0)][say(0)] = say(3); print a;", "0/0/3/[[3], 2]", api.Done}, {"var a = [1]; a[say(5)] = say(3);", "5/3", api.Index}, {"var a = 1; a[say(0)][say(1)] = say(3);", "0/1/3", api.Types},
		{"var a = [1]; a[1 / 0] = say(3);", "", api.Zero}, {"var a = [1]; a[9][1 / 0] = say(3);", "", api.Zero}, {"var a = [1]; a[true] = 1 / 0;", "", api.Zero}, {"var a = [1]; a[5] = len(1);", "", api.Types},
		{"len(say([say(1)]));", "1/[1]", api.Done}, {"print -say(1) - -say(2);", "1/2/1", api.Done}, {"var a = [say(1)] + [say(2)];", "1/2", api.Done},
		{"print read() - read();", "20", api.Done}, {"print [read(), read(), read()];", "[50, 30, 20]", api.Done}, {"print two(read(), two(read(), read()));", "[50, [30, 20]]", api.Done},
		{"print read(); print read() + read(); print read();", "50/50", api.Tape}, {"read(); read(); print read();", "20", api.Done}, {"read(); read(); read(); print 1; read(); print 2;", "1", api.Tape},
		{"print false && read() == 1; print read();", "false/50", api.Done},
	}...), 50, 30, 20)
}

func TestStatements(t *testing.T) {
	expectRuns(t, []runCase{
		{"", "", api.Done}, {"var a = 1; print a; a = \"x\"; print a; a = [a, a]; print a;", "1/x/[\"x\", \"x\"]", api.Done},
		{"if true { print 1; } else { print 2; } print 3;", "1/3", api.Done}, {"if false { print 1; } else { print 2; } print 3;", "2/3", api.Done}, {"if false { print 1; } print 3;", "3", api.Done}, {"if true { } else { print 2; }", "", api.Done},
		{"if true { if false { print 1; } else { print 2; } } else { print 3; }", "2", api.Done}, {"if false { } else { if true { print 1; } }", "1", api.Done},
		{"var i = 0; while i < 3 { print i; i = i + 1; } print \"end\";", "0/1/2/end", api.Done}, {"while false { print 1; } print 2;", "2", api.Done},
		{"var i = 0; while i < 2 { var j = 0; while j < 2 { print [i, j]; j = j + 1; } i = i + 1; }", "[0, 0]/[0, 1]/[1, 0]/[1, 1]", api.Done},
		{"var i = 0; while i < 3 { var a = i; a = a * 10; print a; i = i + 1; }", "0/10/20", api.Done}, {"if true { var a = 1; print a; } if true { var a = 2; print a; } var a = 3; print a;", "1/2/3", api.Done},
		{"var a = 1; if true { var b = 2; a = b; } var c = 3; print [a, c];", "[2, 3]", api.Done}, {"if true { var a = 1; var b = 2; } var c = 3; if true { var d = 4; c = c + d; } print c;", "7", api.Done},
		{"print 1; return; print 2;", "1", api.Done}, {"print 1; return 1 / 0; print 2;", "1", api.Zero}, {"while true { print 1; return true; }", "1", api.Done}, {"if true { while true { if true { return [1]; } } } print 1;", "", api.Done},
		{"print none(); none(); print [none()];", "0/[0]", api.Done}, {"say(1); say(say(2));", "1/2/2", api.Done}, {"len([1]); len(\"\"); print 1;", "1", api.Done}, {"len(1); print 1;", "", api.Types}, {"read();", "", api.Tape},
		{"print say([1]) + say([2]);", "[1]/[2]/[1, 2]", api.Done}, {"var x = 5; print say(x + 1); print x;", "6/6/5", api.Done},
	})
	for _, c := range []struct{ functions, statements, printed string }{
		{"func f() { return; }", "print f();", "0"}, {"func f(n) { if n { return 1; } }", "print f(true); print f(false);", "1/0"}, {"func f(n) { while true { n = n + 1; if 5 <= n { return n; } } return 9; }", "print f(0);", "5"},
		{"func f(n) { if n <= 1 { return 1; } return n * f(n - 1); }", "print f(10);", "3628800"}, {"func even(n) { if n == 0 { return true; } return odd(n - 1); } func odd(n) { if n == 0 { return false; } return even(n - 1); }", "print even(8); print even(7);", "true/false"},
		{"func f(n) { n = n + 1; var m = n; return m; }", "var n = 1; var m = 5; print f(n); print [n, m];", "2/[1, 5]"}, {"func f(a, b, c) { return [c, b, a]; }", "print f(1, \"b\", [3]);", "[[3], \"b\", 1]"},
		{"func f(n) { if n == 0 { return 0; } var before = n; f(n - 1); print before; return n; }", "print f(3);", "1/2/3/3"}, {"func f(n) { if 2 < n { return n; } return f(n + 1) * 10 + n; }", "print f(0);", "3210"},
	} {
		all := allMoments(t, started(t, c.functions+in(c.statements)))
		last := all[len(all)-1]
		if got := strings.Join(last.Output, "/"); got != c.printed || last.Stop != api.Done {
			t.Errorf("%s %s\nprints %q, %s, want %q", c.functions, c.statements, got, stopName(last.Stop), c.printed)
		}
	}
}

// TestValuesAreNotShared: what one variable has changes with no other.
func TestValuesAreNotShared(t *testing.T) {
	expectRuns(t, []runCase{
		{"var a = [1, [2]]; var b = a; b[1][0] = 5; b[0] = 6; print a; print b;", "[1, [2]]/[6, [5]]", api.Done}, {"var a = [1]; var b = []; b = a; a[0] = 2; print b;", "[1]", api.Done},
		{"var a = [1]; var b = [a, a]; a[0] = 2; print b; b[0][0] = 3; print b; print a;", "[[1], [1]]/[[3], [1]]/[2]", api.Done}, {"var a = [[1]]; var b = a[0]; b[0] = 2; print a; a[0][0] = 3; print b;", "[[1]]/[2]", api.Done},
		{"var a = [1, 2]; a[0] = a; print a; a[0][0] = 9; print a;", "[[1, 2], 2]/[[9, 2], 2]", api.Done}, {"var a = [[1], [2]]; a[0] = a[1]; a[1][0] = 3; print a;", "[[2], [3]]", api.Done},
		{"var a = [1]; var b = a + []; b[0] = 2; print a; var c = [] + a; c[0] = 3; print a;", "[1]/[1]", api.Done}, {"var a = [[1]]; var b = a + a; b[0][0] = 2; print a; print b;", "[[1]]/[[2], [1]]", api.Done},
		{"var a = [1]; var b = say(a); b[0] = 2; print a;", "[1]/[1]", api.Done},
	})
	for _, c := range []struct{ functions, statements, printed string }{
		{"func f(a) { a[0] = 2; return a; }", "var a = [1]; var b = f(a); print a; print b; b[0] = 3; print a;", "[1]/[2]/[1]"}, {"func f(a) { a[0][0] = 2; }", "var a = [[1]]; f(a); f([a]); print a;", "[[1]]"},
		{"func f(a, b) { a[0] = 2; return b; }", "var a = [1]; print f(a, a); print f([a], [a, a]);", "[1]/[[1], [1]]"}, {"func f(a, n) { a[n] = n; if n < 2 { f(a, n + 1); } print a; }", "f([9, 9, 9], 0);", "[0, 1, 2]/[0, 1, 9]/[0, 9, 9]"},
		{"func f() { var a = [0]; a[0] = a[0] + 1; return a; }", "print f(); print f(); var i = 0; while i < 2 { var b = [0]; b[0] = b[0] + 1; print b; i = i + 1; }", "[1]/[1]/[1]/[1]"},
	} {
		all := allMoments(t, started(t, c.functions+in(c.statements)))
		if got := strings.Join(all[len(all)-1].Output, "/"); got != c.printed {
			t.Errorf("%s %s\nprints %q, want %q", c.functions, c.statements, got, c.printed)
		}
	}
}

func TestAssignmentStops(t *testing.T) {
	expectRuns(t, []runCase{
		{"var a = [1, [2, 3]]; a[1][0] = \"x\"; print a; a[0] = true; print a; a[1] = 0; print a;", "[1, [\"x\", 3]]/[true, [\"x\", 3]]/[true, 0]", api.Done}, {"var a = [[[1]]]; a[0][0][0] = a; print a;", "[[[[[[1]]]]]]", api.Done},
		{"var a = [1]; a[1] = 2;", "", api.Index}, {"var a = [1]; a[-1] = 2;", "", api.Index}, {"var a = []; a[0] = 2;", "", api.Index}, {"var a = [1]; a[9223372036854775807] = 2;", "", api.Index}, {"var a = [1, 2]; a[4294967296] = 2;", "", api.Index},
		{"var a = [1]; a[true] = 2;", "", api.Types}, {"var a = [1]; a[\"0\"] = 2;", "", api.Types}, {"var a = [1]; a[[0]] = 2;", "", api.Types}, {"var a = 5; a[0] = 2;", "", api.Types}, {"var a = true; a[0] = 2;", "", api.Types}, {"var a = \"xy\"; a[0] = \"z\";", "", api.Types}, {"var a = [\"xy\"]; a[0][0] = \"z\";", "", api.Types},
		{"var a = [1, [2]]; a[0][0] = 2;", "", api.Types}, {"var a = [1, [2]]; a[1][1] = 2;", "", api.Index}, {"var a = [1, [2]]; a[5][true] = 2;", "", api.Index}, {"var a = [1, [2]]; a[true][5] = 2;", "", api.Types}, {"var a = [1, [2]]; a[1][true] = 2;", "", api.Types}, {"var a = [1, [2]]; a[0][9] = 2;", "", api.Types}, {"var a = [1, [2]]; a[9][0][0] = 2;", "", api.Index}, {"var a = 5; a[true] = 2;", "", api.Types},
		// Which place it is comes before how large it would be.
		{"var a = " + row(150) + "; a[150] = a;", "", api.Index}, {"var a = " + row(150) + "; a[true] = a;", "", api.Types}, {"var a = " + row(150) + "; a[0][0] = a;", "", api.Types}, {"var a = " + row(150) + "; a[0] = a;", "", api.Large},
	})
}
