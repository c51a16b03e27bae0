package hindsight_test

import (
	"strings"
	"testing"

	"hindsight/api"
)

// expectMoments holds all the moments of a run against what is wanted: a line
// each.
func expectMoments(t *testing.T, source, want string, tape ...int) {
	t.Helper()
	var got []string
	for _, m := range allMoments(t, started(t, source, tape...)) {
		got = append(got, strings.TrimSpace(shown(m)))
	}
	var lines []string
	for _, line := range strings.Split(strings.TrimSpace(want), "\n") {
		lines = append(lines, strings.TrimSpace(line))
	}
	for n := range max(len(got), len(lines)) {
		switch {
		case n >= len(got):
			t.Errorf("%s\nhas no moment %d, want %q", source, n, lines[n])
		case n >= len(lines):
			t.Errorf("%s\nhas a moment %d too many: %q", source, n, got[n])
		case got[n] != lines[n]:
			t.Errorf("%s\nmoment %d is %q, want %q", source, n, got[n], lines[n])
		}
	}
}

func TestMomentsOfExample(t *testing.T) {
	expectMoments(t, example, `
		main 3 |  |
		main 4 | a=[1, "né"] |
		main 5 | a=[1, "né"] b=[1, "né"] |
		main 5 | a=[1, "né"] b=[1, "né"] |
		main 5, twice 1 | x=2 |
		main 5 | a=[1, "né", 4] b=[1, "né"] |
		main 5 | a=[1, "né", 4] b=[1, "né"] |
		main 5, twice 1 | x=3 |
		main 5 | a=[1, "né", 4, 6] b=[1, "né"] |
		main 6 | a=[1, "né", 4, 6] b=[1, "né"] |
		main 7 | a=[1, "né", 4, 6] b=[6, "né"] |
		main 8 | a=[1, "né", 4, 6] b=[6, "né"] | [1, "né", 4, 6]
		|  | [1, "né", 4, 6]/é! | Done`)
}

// TestMomentsOfStatements: one for each statement that begins, and one for
// each look of a while; an if, a block and an else have none of their own.
func TestMomentsOfStatements(t *testing.T) {
	expectMoments(t, "func main() {\nvar i = 0;\nwhile i < 2 {\nif i == 0 {\nprint \"a\";\n} else {\nprint \"b\";\n}\ni = i + 1;\n}\nreturn;\n}", `
		main 2 |  |
		main 3 | i=0 |
		main 4 | i=0 |
		main 5 | i=0 |
		main 9 | i=0 | a
		main 3 | i=1 | a
		main 4 | i=1 | a
		main 7 | i=1 | a
		main 9 | i=1 | a/b
		main 3 | i=2 | a/b
		main 11 | i=2 | a/b
		|  | a/b | Done`)
	expectMoments(t, "func main() {\nwhile false {\nprint 1; }\nif false {\nprint 2; }\nif true { }\nelse {\nprint 3; }\nif true { while false { } }\n}", `
		main 2 |  |
		main 4 |  |
		main 6 |  |
		main 9 |  |
		main 9 |  |
		|  |  | Done`)
	expectMoments(t, "func main() { }", "|  |  | Done")
	expectMoments(t, "func none() { }\nfunc main() {\nnone();\nprint none() + none();\nlen(\"\");\nread();\n}", `
		main 3 |  |
		main 4 |  |
		main 5 |  | 0
		main 6 |  | 0
		|  | 0 | Done`, 1)
}

// TestMomentsLines: a statement is at its first token, wherever it goes on.
func TestMomentsLines(t *testing.T) {
	expectMoments(t, "// first\nfunc main\n(\n) { var\na\n=\n[1\n,2]; a\n[\n0]\n= 3; print // here\na; if\ntrue\n{\n} while\nfalse { } f\n(\n); return\n;\n}\nfunc f() { return\n1; }", `
		main 4 |  |
		main 8 | a=[1, 2] |
		main 11 | a=[3, 2] |
		main 12 | a=[3, 2] | [3, 2]
		main 15 | a=[3, 2] | [3, 2]
		main 16 | a=[3, 2] | [3, 2]
		main 16, f 21 |  | [3, 2]
		main 18 | a=[3, 2] | [3, 2]
		|  | [3, 2] | Done`)
}

// TestMomentsOfCalls: each frame tells the statement that is being done in it,
// and the last one its variables.
func TestMomentsOfCalls(t *testing.T) {
	expectMoments(t, "func f(n) {\nvar m = n;\nif 0 < m {\nm = m +\nf(n - 1);\n}\nreturn m;\n}\nfunc main() {\nvar x = 9;\nprint f(1) + f(0);\n}", `
		main 10 |  |
		main 11 | x=9 |
		main 11, f 2 | n=1 |
		main 11, f 3 | m=1 n=1 |
		main 11, f 4 | m=1 n=1 |
		main 11, f 4, f 2 | n=0 |
		main 11, f 4, f 3 | m=0 n=0 |
		main 11, f 4, f 7 | m=0 n=0 |
		main 11, f 7 | m=1 n=1 |
		main 11, f 2 | n=0 |
		main 11, f 3 | m=0 n=0 |
		main 11, f 7 | m=0 n=0 |
		|  | 1 | Done`)
	expectMoments(t, "func yes(b) { return\nb; }\nfunc main() {\nwhile yes(true) {\nvar q = 1;\nif yes(false) { }\nelse { return yes(q); }\n} }", `
		main 4 |  |
		main 4, yes 1 | b=true |
		main 5 |  |
		main 6 | q=1 |
		main 6, yes 1 | b=false |
		main 7 | q=1 |
		main 7, yes 1 | b=1 |
		|  |  | Done`)
	expectMoments(t, "func main() {\nif read() == 1 {\nmain(); }\nprint 1; }", `
		main 2 |  |
		main 3 |  |
		main 3, main 2 |  |
		main 3, main 4 |  |
		main 4 |  | 1
		|  | 1/1 | Done`, 1, 2)
	expectMoments(t, "func f(a, b) {\nprint 1;\nprint 2; }\nfunc main() {\nvar l = [0, 0];\nl[f(1, 2)] = f(3, l);\nprint l; }", `
		main 5 |  |
		main 6 | l=[0, 0] |
		main 6, f 2 | a=1 b=2 |
		main 6, f 3 | a=1 b=2 | 1
		main 6, f 2 | a=3 b=[0, 0] | 1/2
		main 6, f 3 | a=3 b=[0, 0] | 1/2/1
		main 7 | l=[0, 0] | 1/2/1/2
		|  | 1/2/1/2/[0, 0] | Done`)
}

// TestMomentsVars: what is to be seen at each statement, and in which order.
func TestMomentsVars(t *testing.T) {
	expectMoments(t, "func main() {\nvar b = 1;\nif true {\nvar a = 2;\nif true {\nvar c = 3;\nc = 4; }\nvar B = 5;\na = 6; }\nvar a = \"x\";\nwhile a == \"x\" {\nvar d = [b];\na = \"y\"; }\nvar _ = true;\nvar a1 = 7;\nreturn; }", `
		main 2 |  |
		main 3 | b=1 |
		main 4 | b=1 |
		main 5 | a=2 b=1 |
		main 6 | a=2 b=1 |
		main 7 | a=2 b=1 c=3 |
		main 8 | a=2 b=1 |
		main 9 | B=5 a=2 b=1 |
		main 10 | b=1 |
		main 11 | a="x" b=1 |
		main 12 | a="x" b=1 |
		main 13 | a="x" b=1 d=[1] |
		main 11 | a="y" b=1 |
		main 14 | a="y" b=1 |
		main 15 | _=true a="y" b=1 |
		main 16 | _=true a="y" a1=7 b=1 |
		|  |  | Done`)
	// Ends of blocks, and rounds of loops, take variables away again.
	expectMoments(t, "func main() {\nvar i = 0;\nwhile i < 2 {\nif i == 1 {\nvar x = i;\nvar y = x; }\nelse {\nvar y = 5;\nvar x = 6; }\nvar z = i;\ni = i + 1; } }", `
		main 2 |  |
		main 3 | i=0 |
		main 4 | i=0 |
		main 8 | i=0 |
		main 9 | i=0 y=5 |
		main 10 | i=0 |
		main 11 | i=0 z=0 |
		main 3 | i=1 |
		main 4 | i=1 |
		main 5 | i=1 |
		main 6 | i=1 x=1 |
		main 10 | i=1 |
		main 11 | i=1 z=1 |
		main 3 | i=2 |
		|  |  | Done`)
	// In the order of the bytes: digits, capitals, _, small letters.
	expectMoments(t, "func f(z, a, Z, _, a0, aA, a_, aa) { return; } func main() { f(1, 2, 3, 4, 5, 6, 7, 8); }", `
		main 1 |  |
		main 1, f 1 | Z=3 _=4 a=2 a0=5 aA=6 a_=7 aa=8 z=1 |
		|  |  | Done`)
	expectMoments(t, "func f(s, t) { t = s; return s; }\nfunc main() { var s = -1; s = f(\"né\", [true, \"\"]); }", `
		main 2 |  |
		main 2 | s=-1 |
		main 2, f 1 | s="né" t=[true, ""] |
		main 2, f 1 | s="né" t="né" |
		|  |  | Done`)
}

// TestMomentsOfStops: the last moment has the frames as they are, and the
// variables that are to be seen at the statement that is being done.
func TestMomentsOfStops(t *testing.T) {
	for _, c := range []struct {
		source, want string
		time         int
	}{
		{"func main() {\nvar x = 1;\nvar y = 1 / 0;\n}", "main 3 | x=1 |  | Zero", 2},
		{"func main() {\nvar x = 1 / 0; }", "main 2 |  |  | Zero", 1},
		{"func main() {\nif true { var q = 2; }\nprint 1 + true; }", "main 3 |  |  | Types", 3},
		{"func main() {\nvar i = 1; while\ntrue / i {\nvar j = 1; } }", "main 2 | i=1 |  | Types", 2},
		{"func main() {\nvar i = 2;\nwhile 0 < 4 / i {\nvar j = i;\ni = i - 1; } }", "main 3 | i=0 |  | Zero", 8},
		{"func main() {\nif true { var q = 2;\nif q { var r = 3; } } }", "main 3 | q=2 |  | Types", 3},
		{"func f(p) {\nif true { var q = 2;\nprint p[0]; } }\nfunc main() {\nvar x = 1; f(x); }", "main 5, f 3 | p=1 q=2 |  | Types", 5},
		{"func f(p) { return p; }\nfunc main() {\nvar x = [1]; x[f(5)] =\nf(6); }", "main 3 | x=[1] |  | Index", 4},
		{"func f(p) {\nprint p; return p; }\nfunc main() { print f(1) +\nf(true); }", "main 3 |  | 1/true | Types", 5},
		{"func f(p) {\nreturn p / 0; }\nfunc main() { var a = 1; print\nf(a); }", "main 3, f 2 | p=1 |  | Zero", 3},
		{"func f(p) {\nvar r = read();\nf(r); }\nfunc main() { f(0); }", "main 4, f 3, f 3, f 2 | p=9 |  | Tape", 6},
		{"func f(n) {\nf(n + 1); }\nfunc main() { f(1); }", "main 3" + strings.Repeat(", f 2", 15) + " | n=15 |  | Depth", 16},
		{"func f(a, b) { return a; }\nfunc main() { var x = 1;\nf(f(1, 2), f(3, read() + read() + read())); }", "main 3 | x=1 |  | Tape", 3},
		{"func main() { var a = [1, 2]; a[1] = a; a[1][1][0] = 5; }", "main 1 | a=[1, [1, 2]] |  | Types", 3},
		{"func main() { var s = \"é\"; while true { s = s + s; } }", "main 1 | s=\"" + strings.Repeat("é", 64) + "\" |  | Large", 15},
		{"func main() { print 1; if read() == 8 { main(); } else { return -true; } }", "main 1, main 1 |  | 1/1 | Types", 6},
		{"func main() {\nreturn 1 / 0; }", "main 2 |  |  | Zero", 1},
		{"func main() {\nlen(0); }", "main 2 |  |  | Types", 1},
	} {
		all := allMoments(t, started(t, c.source, 8, 9))
		last := all[len(all)-1]
		if got := shown(last); got != c.want || last.Time != c.time {
			t.Errorf("%s\nstops at moment %d with %q, want %d, %q", c.source, last.Time, got, c.time, c.want)
		}
		for _, m := range all[:len(all)-1] {
			if m.Stop != api.None {
				t.Errorf("%s\nhas a stop at moment %d: %s", c.source, m.Time, stopName(m.Stop))
			}
		}
	}
}

// TestMomentsDone: nothing is left but the output.
func TestMomentsDone(t *testing.T) {
	for _, source := range []string{in("var x = 1; print x;"), in("print 1; return 2;"), in("var x = 1; while true { print x; return; }"), in("print f(1);") + "func f(x) { return x; }"} {
		all := allMoments(t, started(t, source))
		last := all[len(all)-1]
		if len(last.Stack) != 0 || len(last.Vars) != 0 || last.Stop != api.Done || len(last.Output) != 1 || last.Output[0] != "1" {
			t.Errorf("%s: the last moment is %+v", source, last)
		}
	}
}
