package hindsight_test

import (
	"strconv"
	"strings"
	"testing"

	"hindsight/api"
	"hindsight/hindsight"
)

// example is the program of the document's examples.
const example = `func twice(x) { return x + x; }
func main() {
  var a = [1, "né"];
  var b = a;
  while len(a) < 4 { a = a + [twice(len(a))]; }
  b[0] = a[3];
  print a;
  print b[1][1] + "!";
}
`

type checkCase struct {
	source string
	kind   api.Kind
	line   int
}

// in makes a program whose main has these statements, from line 1 on.
func in(statements string) string { return "func main() { " + statements + " }" }

func fine(source string) checkCase { return checkCase{source, api.Fine, 0} }

func expect(t *testing.T, cases []checkCase) {
	t.Helper()
	for _, c := range cases {
		if kind, line := hindsight.Check(c.source); kind != c.kind || line != c.line {
			t.Errorf("Check(%.120q) = %d, %d, want %d, %d", c.source, kind, line, c.kind, c.line)
		}
	}
}

func TestCheckFine(t *testing.T) {
	expect(t, []checkCase{
		fine(example),
		fine("func main(){}"),
		fine("\t\n func\nmain\n(\n)\n{\n}\n"),
		fine("func main() {}//"),
		fine("//\n//\"\nfunc main() { // { $ é \r \x00\n}// end"),
		fine(in("return; return 1; print read(); len(1); main();")),
		fine(in("if true { } if 1 { } else { } while \"x\" { return; }")),
		fine(in("var x = [ ]; x = [1, [2, x]]; x[1][0] = x[x[0]][1][2];")),
		fine(in("print 1 || 2 && 3 == 4 + 5 * - ! 6 % (7 / 8 - 9) || 1 != true;")),
		fine(in("print 1 < 2 && 3 <= 4 || (5 == 6) == (7 != 8);")),
		fine(in("print \"abc\"[1]; print [1][0]; print (1)[0]; print 1[0]; print true[0]; print f(1)[0][1];") + "func f(x) { }"),
		fine(in("print \"\"; print \"// func \\ \t\r\x00 é\U0001F600\";")),
		fine(in("var iff = 1; var True = 2; var _ = 3; var _0 = 4; var aZ9 = iff + True + _ + _0;")),
		fine(in("print 1/2; // 3 }\nprint 4/ // 5;\n6;")),
		fine(in("print 1==2;print 1!=2;print 1<=2;print 1<-2;print!true;var x=-1;x=!x;")),
	})
}

func TestCheckDocumentExamples(t *testing.T) {
	expect(t, []checkCase{
		{"func main() { x = 1; }", api.Name, 1},
		{"func main( {}", api.Form, 1},
		{"", api.Main, 0},
		{"func main() { print 9223372036854775808; }", api.Token, 1},
	})
}

func TestCheckLong(t *testing.T) {
	pad := func(size int) string {
		return in("") + strings.Repeat(" ", size-len(in("")))
	}
	expect(t, []checkCase{
		fine(pad(api.MaxSource - 1)),
		fine(pad(api.MaxSource)),
		{pad(api.MaxSource + 1), api.Long, 0},
		{strings.Repeat("\n", api.MaxSource+1), api.Long, 0},
		{strings.Repeat("\n", api.MaxSource), api.Main, 0},
		{in("") + "//" + strings.Repeat("é", (api.MaxSource-len(in("")))/2), api.Long, 0},
		{strings.Repeat("(", api.MaxSource), api.Form, 1},
		{strings.Repeat("\xff", 5000000), api.Long, 0},
	})
}

func TestCheckEncoding(t *testing.T) {
	var cases []checkCase
	for _, bad := range []string{
		"\x80", "\xbf", "\xc0\x80", "\xc1\xbf", "\xc3", "\xe0\x9f\xbf", "\xe2\x82", "\xed\xa0\x80", "\xed\xbf\xbf",
		"\xf0\x8f\xbf\xbf", "\xf0\x9f\x98", "\xf4\x90\x80\x80", "\xf5\x80\x80\x80", "\xfe", "\xff",
	} {
		cases = append(cases,
			checkCase{bad, api.Encoding, 1},
			checkCase{"\n" + bad + "\n" + in(""), api.Encoding, 2},
			checkCase{in("print\n\n\"é" + bad + "\";"), api.Encoding, 3},
			checkCase{in("") + "\n\n\n// " + bad, api.Encoding, 4},
		)
	}
	for _, good := range []string{
		"\x00", "\x7f", "\u0080", "\u07ff", "\u0800", "\ud7ff", "\ue000", "\ufeff", "\ufffd", "\uffff", "\U00010000", "\U0010ffff",
	} {
		cases = append(cases, fine(in("print \""+good+"\"; // "+good+"\n")))
	}
	expect(t, cases)
}

func TestCheckToken(t *testing.T) {
	expect(t, []checkCase{
		// names
		fine(in("var " + strings.Repeat("x", api.MaxName) + " = 1;")),
		{in("\nvar " + strings.Repeat("x", api.MaxName+1) + " = 1;"), api.Token, 2},
		{in("\nvar " + strings.Repeat("_9", api.MaxName) + " = 1;"), api.Token, 2},
		{"funcfuncfuncfuncf", api.Token, 1},
		// numbers
		fine(in("print 9223372036854775807;")),
		fine(in("print 0; print 00; print " + strings.Repeat("0", 300) + "9223372036854775807;")),
		{in("\nprint 9223372036854775808;"), api.Token, 2},
		{in("print -9223372036854775808;"), api.Token, 1},
		{in("print 09223372036854775808;"), api.Token, 1},
		{in("print " + strings.Repeat("1", 400) + ";"), api.Token, 1},
		{in("print 18446744073709551617;"), api.Token, 1},
		// strings
		fine(in("print \"" + strings.Repeat("x", api.MaxString) + "\";")),
		{in("\nprint \"" + strings.Repeat("x", api.MaxString+1) + "\";"), api.Token, 2},
		fine(in("print \"" + strings.Repeat("é", api.MaxString/2) + "\";")),
		{in("print \"" + strings.Repeat("é", api.MaxString/2) + "x\";"), api.Token, 1},
		{in("print\n\"x\n\";"), api.Token, 2},
		{"\n\"", api.Token, 2},
		{"\"" + strings.Repeat("x", api.MaxString), api.Token, 1},
		{in("print \"a\"b\";"), api.Token, 1},
		{in("print \"// x;"), api.Token, 1},
		// places at which nothing begins
		{in("\nprint 1 & 2;"), api.Token, 2},
		{in("print 1 | 2;"), api.Token, 1},
		{in("print 1 &&& 2;"), api.Token, 1},
		{in("print 1 ||| 2;"), api.Token, 1},
		{in("print 1 > 2;"), api.Token, 1},
		{in("print 1 >= 2;"), api.Token, 1},
		{in("print 1.5;"), api.Token, 1},
		{in("print 'a';"), api.Token, 1},
		{in("print é;"), api.Token, 1},
		{in("var naïve = 1;"), api.Token, 1},
		{"\ufeff" + in(""), api.Token, 1},
		{"\u00a0" + in(""), api.Token, 1},
		{in("\r\n"), api.Token, 1},
		{in("\n\v"), api.Token, 2},
		{in("\f"), api.Token, 1},
		{in("\x00"), api.Token, 1},
		// and not the last one
		{in("") + "\n$\n\n$", api.Token, 2},
	})
	for b := 0; b < 128; b++ {
		begins := strings.ContainsRune(" \t\n(){}[],;=<+-*/%!_", rune(b)) || b >= '0' && b <= '9' || b >= 'a' && b <= 'z' || b >= 'A' && b <= 'Z'
		kind, line := hindsight.Check("\n" + string(rune(b)))
		if (kind == api.Token) == begins || kind == api.Token && line != 2 {
			t.Errorf("byte %d: %d, %d", b, kind, line)
		}
	}
}

// TestCheckLongestToken: where a shorter token is taken, these have another form.
func TestCheckLongestToken(t *testing.T) {
	expect(t, []checkCase{
		{in("print 1 = = 2;"), api.Form, 1},
		{in("print 1 ! = 2;"), api.Form, 1},
		{in("print 1 < = 2;"), api.Form, 1},
		{in("print 1 & & 2;"), api.Token, 1},
		{in("var x == 1;"), api.Form, 1},
		{in("var x = 1; x === 2;"), api.Form, 1},
		{in("print 1 <== 2;"), api.Form, 1},
		{in("print !=1;"), api.Form, 1},
		{in("print 12ab;"), api.Form, 1},
		{in("print 1 2;"), api.Form, 1},
		{in("printx;"), api.Form, 1},
		{in("print x1;"), api.Name, 1},
		{in("varx = 1;"), api.Name, 1},
		fine(in("print(1);return(2);if(true){}")),
		fine(in("print--1;print 1--1;print!!true;")),
	})
}

func TestCheckForm(t *testing.T) {
	expect(t, []checkCase{
		{"x", api.Form, 1},
		{";", api.Form, 1},
		{"func", api.Form, 1},
		{"func\n\n", api.Form, 3},
		{"func main", api.Form, 1},
		{"func main(\n\n{}", api.Form, 3},
		{"func main(\n)\n;", api.Form, 3},
		{"func if() { }", api.Form, 1},
		{"func main(\nif) { }", api.Form, 2},
		{"func main(a b) { }", api.Form, 1},
		{"func main(a, ) { }", api.Form, 1},
		{"func main(, a) { }", api.Form, 1},
		{"func main(1) { }", api.Form, 1},
		{"func \"main\"() { }", api.Form, 1},
		{in("") + "\n}", api.Form, 2},
		{in("") + "\nvar x = 1;", api.Form, 2},
		{in("func f() { }"), api.Form, 1},
		{in("{ }"), api.Form, 1},
		{in(";"), api.Form, 1},
		{in("1;"), api.Form, 1},
		{in("x;"), api.Form, 1},
		{in("x[1];"), api.Form, 1},
		{in("x[] = 1;"), api.Form, 1},
		{in("(x) = 1;"), api.Form, 1},
		{in("len([])[0] = 1;"), api.Form, 1},
		{in("len([])\n[0];"), api.Form, 2},
		{in("len([]) + 1;"), api.Form, 1},
		{in("var x;"), api.Form, 1},
		{in("var x[0] = 1;"), api.Form, 1},
		{in("var\nif = 1;"), api.Form, 2},
		{in("var x = ;"), api.Form, 1},
		{in("var x = 1"), api.Form, 1},
		{in("if { }"), api.Form, 1},
		{in("if true\n;"), api.Form, 2},
		{in("if true { } else\nif true { }"), api.Form, 2},
		{in("else { }"), api.Form, 1},
		{in("if true { } else { } else { }"), api.Form, 1},
		{in("while { }"), api.Form, 1},
		{in("while true { } else { }"), api.Form, 1},
		{in("return"), api.Form, 1},
		{in("return 1 2;"), api.Form, 1},
		{in("print;"), api.Form, 1},
		{in("print 1, 2;"), api.Form, 1},
		{in("print 1 < 2\n< 3;"), api.Form, 2},
		{in("print 1 == 2\n!= 3;"), api.Form, 2},
		{in("print 1 +\n+ 2;"), api.Form, 2},
		{in("print * 2;"), api.Form, 1},
		{in("print 1 !;"), api.Form, 1},
		{in("print ();"), api.Form, 1},
		{in("print (1, 2);"), api.Form, 1},
		{in("print (1;"), api.Form, 1},
		{in("print 1);"), api.Form, 1},
		{in("print [1;"), api.Form, 1},
		{in("print [1, 2, ];"), api.Form, 1},
		{in("print [, 1];"), api.Form, 1},
		{in("print [1\n2];"), api.Form, 2},
		{in("print x[];"), api.Form, 1},
		{in("print x[1, 2];"), api.Form, 1},
		{in("print f(1, );"), api.Form, 1},
		{in("print f(1)(2);"), api.Form, 1},
		{in("print \"a\" \"b\";"), api.Form, 1},
		{in("print if;"), api.Form, 1},
		{in("true = 1;"), api.Form, 1},
		{in("print \"x\"\n= 1;"), api.Form, 2},
		{in("print 4///\n/ 6;\n;"), api.Form, 3},
	})
}

// TestCheckEndsTooEarly cuts a program behind each of its tokens, with some
// lines behind the cut: the last of these is told.
func TestCheckEndsTooEarly(t *testing.T) {
	tokens := strings.Fields(`func f ( a , b ) { a [ 0 ] [ b ] = - 1 + 2 * ( a [ 3 ] ) ; f ( a , b ) ; }
		func main ( ) { var x = [ "s" , true ] ; if ! x == 1 { return ; } else { while x || 1 && f ( 1 , 2 ) { print 1 ; } } return x ; }`)
	for size := 1; size < len(tokens); size++ {
		text := strings.Join(tokens[:size], "\n") + "\n// x\n\n"
		want := checkCase{text, api.Form, size + 3}
		if tokens[size] == "func" {
			want = checkCase{text, api.Main, 0}
		}
		expect(t, []checkCase{want})
	}
	expect(t, []checkCase{
		fine(strings.Join(tokens, "\n")),
		{"func main() {", api.Form, 1},
		{"func main() {\n", api.Form, 2},
		{"func main() {\n// x", api.Form, 2},
		{"func main() {\n// x\n \t", api.Form, 3},
	})
}

func TestCheckMain(t *testing.T) {
	expect(t, []checkCase{
		{"", api.Main, 0},
		{" \n\t", api.Main, 0},
		{"// func main() { }", api.Main, 0},
		{"func Main() { }", api.Main, 0},
		{"func main_() { }", api.Main, 0},
		{"\nfunc main(x) { }", api.Main, 0},
		{"func main(x) { }\nfunc main() { }", api.Main, 0},
		{"func main() { }\nfunc main(x) { }", api.Name, 2},
		{"func f() { var main = 1; }", api.Main, 0},
		fine("func f() { }\nfunc main() { }"),
	})
}

func TestCheckName(t *testing.T) {
	expect(t, []checkCase{
		// len and read are taken
		{"func\nlen(x) { }" + in(""), api.Name, 2},
		{"func read() { }" + in(""), api.Name, 1},
		{in("") + "func f(a,\nlen) { }", api.Name, 2},
		{in("") + "func f(read) { }", api.Name, 1},
		{in("var\nlen = 1;"), api.Name, 2},
		{in("var read = 1;"), api.Name, 1},
		{in("print len;"), api.Name, 1},
		{in("read = 1;"), api.Name, 1},
		{in("print read[0];"), api.Name, 1},
		// functions
		{in("") + "func f() { }\nfunc f() { }", api.Name, 2},
		{in("") + "\nfunc\nmain() { }", api.Name, 3},
		{in("") + "func f() { } func g() { }\nfunc f(a) { }", api.Name, 2},
		{in("\ng();"), api.Name, 2},
		{in("print [1, (2 + g(3))];"), api.Name, 1},
		{in("var g = 1; g();"), api.Name, 1},
		{in("print main;"), api.Name, 1},
		fine(in("f();") + "func f() { g(); } func g() { f(); g(); main(); }"),
		fine("func f(f) { f(f); var main = f; print main; }" + in("var f = 1; f(f);")),
		// variables that are to be seen already
		{in("") + "func f(a, b,\na) { }", api.Name, 2},
		{in("") + "func f(a) {\nvar a = 1; }", api.Name, 2},
		{in("") + "func f(a) { while true { if true { } else {\nvar a = 1; } } }", api.Name, 2},
		{in("var x = 1;\nvar x = 2;"), api.Name, 2},
		{in("var x = 1; if true {\nvar x = 2; }"), api.Name, 2},
		{in("var x = 1; while true { var y = 1; }\nvar y = 2;\nvar x = 3;"), api.Name, 3},
		fine(in("if true { var x = 1; } else { var x = 2; } while true { var x = 3; } var x = 4;")),
		fine(in("var x = 1;") + "func f(x) { } func g() { var x = 1; }"),
		// variables that are not to be seen
		{in("\nx = 1;"), api.Name, 2},
		{in("x[0] = 1;"), api.Name, 1},
		{in("print\nx;"), api.Name, 2},
		{in("var x =\nx;"), api.Name, 2},
		{in("var x = [x];"), api.Name, 1},
		{in("print x;\nvar x = 1;"), api.Name, 1},
		{in("if true { var x = 1; }\nprint x;"), api.Name, 2},
		{in("if true { var x = 1; } else {\nprint x; }"), api.Name, 2},
		{in("while x { var x = true; }"), api.Name, 1},
		{in("if x { var x = true; }"), api.Name, 1},
		{in("while true { var x = 1; }\nx = 2;"), api.Name, 2},
		{in("var x = 1;") + "\nfunc f() { print x; }", api.Name, 2},
		{in("") + "func f(a) { } func g() {\nprint a; }", api.Name, 2},
		{in("return x;"), api.Name, 1},
		{in("print X;"), api.Name, 1},
		fine(in("var x = 1; var y = x; if x { while y { x = y; var z = x; y = z; } print x; } return y;")),
		// wherever an expression stands
		{in("var a = 1; a[0][\nx] = 1;"), api.Name, 2},
		{in("var a = 1; a[0] =\nx;"), api.Name, 2},
		{in("len(\nx);"), api.Name, 2},
		{in("print 1[\nx];"), api.Name, 2},
		{in("print x\n[y];"), api.Name, 1},
		{in("print -\n!x;"), api.Name, 2},
		{in("print 1 ||\nx;"), api.Name, 2},
		{in("print x\n&& 1;"), api.Name, 1},
		{in("print [1,\nx];"), api.Name, 2},
		{in("print (\nx);"), api.Name, 2},
	})
}

func TestCheckCount(t *testing.T) {
	expect(t, []checkCase{
		{in("\nlen();"), api.Count, 2},
		{in("print\nlen(1, 2);"), api.Count, 2},
		{in("print read(1);"), api.Count, 1},
		{in("\nmain\n(1);"), api.Count, 2},
		{in("f();") + "func f(a) { }", api.Count, 1},
		{in("f(1, 2);") + "func f(a) { }", api.Count, 1},
		{"func f(a, b) { }" + in("print f(f(1, 2));"), api.Count, 1},
		{"func f(a, b) { }\n" + in("print f(1,\nf(1));"), api.Count, 3},
		{in("f(1);") + "func f() { }\nfunc f(a) { }", api.Count, 1},
		{in("f();") + "func f() { }\nfunc f(a) { }", api.Name, 2},
		{in("len();") + "\nfunc len() { }", api.Count, 1},
		{in("len(1);") + "\nfunc len() { }", api.Name, 2},
		fine(in("f(len([]), read(), [1, 2]);") + "func f(a, b, c) { }"),
	})
}

// TestCheckOrder has two faults in each source, and that which is looked for
// first, or stands first, is told.
func TestCheckOrder(t *testing.T) {
	long := strings.Repeat(" ", api.MaxSource)
	expect(t, []checkCase{
		{"\xff" + long, api.Long, 0},
		{"$" + long, api.Long, 0},
		{"$\n\xff", api.Encoding, 2},
		{"func\n\"\xff", api.Encoding, 2},
		{"\xff\n\xff", api.Encoding, 1},
		{")\n$", api.Token, 2},
		{"func main() {\n\n$", api.Token, 3},
		{"x y z\n&", api.Token, 2},
		{"func f() { x = 1; }\n)", api.Form, 2},
		{"func main(x) { }\n)", api.Form, 2},
		{"func f() { x = 1; }", api.Main, 0},
		{"func main(x) { y = 1; }", api.Main, 0},
		{"func len() { }", api.Main, 0},
		{in("x = 1;\ny = 1;"), api.Name, 1},
		{in("x = 1;\nlen();"), api.Name, 1},
		{in("len();\nx = 1;"), api.Count, 1},
		{in("len(\nx, y);"), api.Count, 1},
		{in("len(\nx);"), api.Name, 2},
		{in("g(\nlen());"), api.Name, 1},
		{in("print read(1)\n+ x;"), api.Count, 1},
		{in("print x\n+ read(1);"), api.Name, 1},
		{in("var x = 1; var\nx =\ny;"), api.Name, 2},
		{in("var len = \nread(1);"), api.Name, 1},
		{in("x[\nread(1)] = 1;"), api.Name, 1},
		{in("var a = 1; a[read(1)] =\nx;"), api.Count, 1},
		{in("var a = 1; a[\nread(1)][x] = y;"), api.Count, 2},
		{in("if\nlen() { x = 1; }"), api.Count, 2},
		{in("if true { len(); } else {\nx = 1; }"), api.Count, 1},
		{in("while x {\nlen(); }"), api.Name, 1},
		{"func main() { }\nfunc main(\nlen) { x = 1; }", api.Name, 2},
		{in("") + "func f(a, a,\nlen) { x = 1; }", api.Name, 1},
		{in("x = 1;") + "\nfunc main() { }", api.Name, 1},
	})
}

// TestCheckAnyText: no text brings it out of its ways, and a line is told just
// where the document gives the kind one.
func TestCheckAnyText(t *testing.T) {
	bits := []string{"", "\"", "\n", "//", "$", "\xff", "é", "(", "}", "x", "9", "func ", ";", "\x00", "len()"}
	for at := 0; at <= len(example); at++ {
		for _, bit := range bits {
			for cut := 0; cut < 3 && at+cut <= len(example); cut++ {
				source := example[:at] + bit + example[at+cut:]
				kind, line := hindsight.Check(source)
				if problem := oddAnswer(source, kind, line); problem != "" {
					t.Fatalf("Check(%q) = %d, %d: %s", source, kind, line, problem)
				}
			}
		}
	}
}

func oddAnswer(source string, kind api.Kind, line int) string {
	switch kind {
	case api.Fine, api.Long, api.Main:
		if line != 0 {
			return "a line, where the kind has none"
		}
	case api.Encoding, api.Token, api.Form, api.Name, api.Count:
		if line < 1 || line > 1+strings.Count(source, "\n") {
			return "no line of the source"
		}
	default:
		return "no kind: " + strconv.Itoa(int(kind))
	}
	return ""
}
