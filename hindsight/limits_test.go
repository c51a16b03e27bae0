package hindsight_test

import (
	"strconv"
	"strings"
	"testing"

	"hindsight/api"
)

func many(piece string, count int) string {
	return "[" + strings.TrimSuffix(strings.Repeat(piece+",", count), ",") + "]"
}

// TestCells: each way to make a value, with MaxCells cells and with one more.
func TestCells(t *testing.T) {
	wide := "\"" + strings.Repeat("é", 50) + "\" + \"" + strings.Repeat("é", 49) + "\"" // 198 bytes
	for _, c := range []struct{ most, over string }{
		{row(199), row(200)},
		{many("true", 199), many("true", 200)},
		{many("\"\"", 199), many("\"\"", 200)},
		{many("[]", 199), many("[]", 200)},
		{text(199), text(200)},
		{wide + " + \"a\"", wide + " + \"é\""},
		{row(99) + " + " + row(100), row(100) + " + " + row(100)},
		{row(199) + " + []", row(199) + " + [0]"},
		{"[" + row(98) + ", " + row(99) + "]", "[" + row(99) + ", " + row(99) + "]"},
		{"[[" + row(197) + "]]", "[[" + row(198) + "]]"},
		{"[" + text(99) + ", " + text(98) + "]", "[" + text(99) + ", " + text(99) + "]"},
		{"[" + wide + "]", "[" + wide + " + \"a\"]"},
		{"two(" + row(98) + ", " + row(99) + ")", "two(" + row(99) + ", " + row(99) + ")"},
	} {
		expectRuns(t, []runCase{
			{"var a = " + c.most + "; print 1;", "1", api.Done},
			{"var a = " + c.over + "; print 1;", "", api.Large},
			{"var a = 0; a = " + c.over + "; print 1;", "", api.Large},
			{"print len(" + c.over + ");", "", api.Large},
			{"print (" + c.over + ")[0];", "", api.Large},
			{"say(" + c.over + ");", "", api.Large},
		})
	}
	expectRuns(t, []runCase{
		// The limit is one of each value, not of all of them together.
		{"var a = " + row(199) + "; var b = a; var c = a; b = a; print len(say(a)) + len(b) + len(c);", strings.ReplaceAll(row(199), ",", ", ") + "/597", api.Done},
		printing(row(199)+"[198]", "0"), printing("len("+text(199)+")", "199"),
		// A list is one only when all its values are there.
		{"var a = " + row(150) + "; print [a, a, say(1)];", "1", api.Large}, {"var a = " + row(150) + "; print [a, a, 1 / 0];", "", api.Zero},
		{"var a = " + row(100) + "; print a + a + say(a);", "", api.Large}, {"var a = " + row(100) + "; print a + (a + [1 / 0]);", "", api.Zero},
		stopping(row(150)+" + "+text(150), api.Types), stopping(text(150)+" < "+row(150), api.Types),
	})
}

func TestCellsOfAssignments(t *testing.T) {
	expectRuns(t, []runCase{
		{"var a = " + row(150) + "; a[0] = " + row(49) + "; print len(a[0]);", "49", api.Done},
		{"var a = " + row(150) + "; a[0] = " + row(50) + "; print len(a[0]);", "", api.Large},
		{"var a = " + row(150) + "; a[149] = " + text(49) + "; print len(a[149]);", "49", api.Done},
		{"var a = " + row(150) + "; a[149] = " + text(50) + "; print 1;", "", api.Large},
		{"var a = [" + row(150) + "]; a[0][7] = " + row(48) + "; print 1;", "1", api.Done},
		{"var a = [" + row(150) + "]; a[0][7] = " + row(49) + "; print 1;", "", api.Large},
		{"var a = [" + row(197) + "]; a[0] = " + row(198) + "; a[0] = 1; a[0] = " + row(198) + "; print 1;", "1", api.Done},
		{"var a = " + row(199) + "; a[5] = \"\"; a[6] = true; a[7] = []; print 1; a[8] = \"x\"; print 2;", "1", api.Large},
		{"var a = [0, 0]; var i = 0; while i < 98 { a[1] = a; i = i + 1; } print i;", "98", api.Done},
		{"var a = [0, 0]; var i = 0; while i < 99 { a[1] = a; i = i + 1; } print i;", "", api.Large},
	})
	all := allMoments(t, started(t, in("var a = ["+text(99)+", 0]; a[1] = a;")))
	if got, want := shown(all[2]), "main 1 | a=[\""+strings.Repeat("a", 99)+"\", 0] |  | Large"; got != want {
		t.Errorf("behind an assignment that is too large: %q, want %q", got, want)
	}
}

// deep is a program whose frame of this number does the statements; main's is
// the first.
func deep(frame int, statements string) string {
	return "func none() { } func f(n) { if n < " + strconv.Itoa(frame) + " { return f(n + 1); } " + statements + " } func main() { f(2); print \"end\"; }"
}

func TestDepth(t *testing.T) {
	for _, c := range []struct {
		source, printed string
		frames          int
		stop            api.Stop
	}{
		{deep(api.MaxDepth-1, "print n;"), "15/end", 0, api.Done},
		{deep(api.MaxDepth, "print n;"), "16/end", 0, api.Done},
		{deep(api.MaxDepth+1, "print n;"), "", 16, api.Depth},
		{deep(api.MaxDepth-1, "print none();"), "0/end", 0, api.Done},
		{deep(api.MaxDepth, "none();"), "", 16, api.Depth},
		{deep(api.MaxDepth, "print none();"), "", 16, api.Depth},
		{deep(api.MaxDepth, "var x = [1 + none()];"), "", 16, api.Depth},
		{deep(api.MaxDepth, "if none() { }"), "", 16, api.Depth},
		{deep(api.MaxDepth, "main();"), "", 16, api.Depth},
		{deep(api.MaxDepth, "print len(\"ab\"); print read(); print false && none();"), "2/7/false/end", 0, api.Done},
		// The values are worked out before there is a call to be too deep.
		{deep(api.MaxDepth, "f(1 / 0);"), "", 16, api.Zero},
		{deep(api.MaxDepth, "f(none() + 1 / 0);"), "", 16, api.Depth},
		{deep(api.MaxDepth, "f(-true);"), "", 16, api.Types},
		{"func f(n) { if n < 16 { f(n + 1); } } func main() { f(2); f(2); print f(2); f(1); }", "0", 16, api.Depth},
		{"func main() { print 1; main(); }", strings.TrimSuffix(strings.Repeat("1/", 16), "/"), 16, api.Depth},
		{"func main() { if read() == 7 { main(); } print 2; }", "2/2", 0, api.Done},
	} {
		all := allMoments(t, started(t, c.source, 7, 8))
		last := all[len(all)-1]
		if got := strings.Join(last.Output, "/"); got != c.printed || len(last.Stack) != c.frames || last.Stop != c.stop {
			t.Errorf("%s\nprints %q, %d frames, %s, want %q, %d, %s", c.source, got, len(last.Stack), stopName(last.Stop), c.printed, c.frames, stopName(c.stop))
		}
	}
}

func TestOutput(t *testing.T) {
	lines := strings.TrimSuffix(strings.Repeat("x/", api.MaxOutput), "/")
	loop := func(count int) string {
		return "var i = 0; while i < " + strconv.Itoa(count) + " { print \"x\"; i = i + 1; } "
	}
	expectRuns(t, []runCase{
		{loop(api.MaxOutput), lines, api.Done}, {loop(api.MaxOutput + 1), lines, api.Output},
		{loop(api.MaxOutput) + "var a = 1;", lines, api.Done}, {loop(api.MaxOutput) + "print \"\";", lines, api.Output},
		{loop(api.MaxOutput-1) + "print \"x\";", lines, api.Done}, {loop(api.MaxOutput-1) + "print \"x\"; say(1);", lines, api.Output},
		// The value is worked out before it is too much.
		{loop(api.MaxOutput) + "print 1 / 0;", lines, api.Zero}, {loop(api.MaxOutput) + "print read();", lines, api.Tape}, {loop(api.MaxOutput) + "print -true;", lines, api.Types},
	})
	all := allMoments(t, started(t, in(loop(api.MaxOutput)+"\nprint\n1;")))
	if got := shown(all[len(all)-1]); got != "main 2 | i=50 | "+lines+" | Output" {
		t.Errorf("the last moment is %q", got)
	}
}

// until is a piece of main that takes so many moments, from 0 on. It leaves
// one variable, i.
func until(time int) string {
	loops := (time - 2) / 2
	return strings.Repeat("i = i; ", time%2) + "while i < " + strconv.Itoa(loops) + " { i = i + 1; } "
}

// TestTime: the moments around MaxTime, with each stop.
func TestTime(t *testing.T) {
	for _, c := range []struct{ statement, stop string }{
		{"print -true;", "Types"}, {"print 1 / 0;", "Zero"}, {"print [][0];", "Index"}, {"print " + text(200) + ";", "Large"}, {"read();", "Tape"}, {"return 5;", "Done"}, {"i[0] = 1;", "Types"},
		{"if i { }", "Types"}, {"while i { }", "Types"}, {"var b = i;", "Done"}, {"none();", "Done"}, {"if false { print 1; }", "Done"}, {"if true { } else { print 1; }", "Done"}, {"while false { }", "Done"},
	} {
		for _, time := range []int{api.MaxTime - 2, api.MaxTime - 1, api.MaxTime, api.MaxTime + 1} {
			all := allMoments(t, started(t, "func none() { } func main() { var i = 0; "+until(time)+"\n"+c.statement+"\n}"))
			last, want := all[len(all)-1], time+1
			stop := c.stop
			if time >= api.MaxTime {
				want, stop = api.MaxTime, "Fuel"
			}
			if last.Time != want || stopName(last.Stop) != stop {
				t.Errorf("%s at moment %d: the last is %d, %s, want %d, %s", c.statement, time, last.Time, stopName(last.Stop), want, stop)
			}
			if time < api.MaxTime && (len(all[time].Stack) != 1 || all[time].Stack[0].Line != 2 || all[time].Stop != api.None) {
				t.Errorf("%s at moment %d: %q", c.statement, time, shown(all[time]))
			}
		}
	}
}

// TestTimeOfLongWays: the two stops that need moments to come to.
func TestTimeOfLongWays(t *testing.T) {
	printed := "func main() { var i = 0; while i < 50 { print i; i = i + 1; } i = 0; " // 153 moments
	for _, c := range []struct {
		source string
		stop   api.Stop
	}{
		{printed + "i = i; while i < 172 { i = i + 1; } print 1; }", api.Output},
		{printed + "while i < 173 { i = i + 1; } print 1; }", api.Fuel},
		{deep(api.MaxDepth, "var i = 0; i = i; while i < 233 { i = i + 1; } none();"), api.Depth},
		{deep(api.MaxDepth, "var i = 0; while i < 234 { i = i + 1; } none();"), api.Fuel},
	} {
		s := started(t, c.source)
		if !s.Seek(api.MaxTime) || s.Seek(api.MaxTime+1) || s.Now().Stop != c.stop {
			t.Errorf("%s\nat moment %d: %q, want %s", c.source, s.Now().Time, shown(s.Now()), stopName(c.stop))
		}
	}
}

// TestFuel: moment MaxTime tells the statement that begins then, and what came
// before it; the statement is not done.
func TestFuel(t *testing.T) {
	for _, c := range []struct{ source, want string }{
		{"func main() { while true { } }", "main 1 |  |  | Fuel"},
		{"func main() { var i = 0; " + until(500) + "\nprint i; }", "main 2 | i=249 |  | Fuel"},
		{"func main() { var i = 0; " + until(499) + "\nprint i;\nprint i; }", "main 3 | i=248 | 248 | Fuel"},
		{"func f(x) {\nprint x; }\nfunc main() { var i = 0; " + until(499) + "\nf(i); }", "main 4, f 2 | x=248 |  | Fuel"},
		{"func main() { var i = 0; " + until(500) + "\nwhile false { } }", "main 2 | i=249 |  | Fuel"},
		{"func main() { var i = 0; " + until(500) + "\nreturn; }", "main 2 | i=249 |  | Fuel"},
		{"func main() { var i = 0;\nwhile true {\nvar j = i;\ni = i + 1; } }", "main 3 | i=166 |  | Fuel"},
		{"func main() { var i = 0; i = 0; i = 0;\nwhile true {\nvar j = i;\ni = i + 1; } }", "main 4 | i=165 j=165 |  | Fuel"},
		{"func f() { return 1; } func main() {\nvar i = 0;\nwhile true { i = i +\nf(); } }", "main 3 | i=166 |  | Fuel"},
	} {
		s := started(t, c.source)
		if s.Seek(api.MaxTime+1) || !s.Seek(api.MaxTime) {
			t.Errorf("%s\n: the last moment is not %d", c.source, api.MaxTime)
		}
		if m := s.Now(); shown(m) != c.want || m.Time != api.MaxTime {
			t.Errorf("%s\nat moment %d: %q, want %q", c.source, m.Time, shown(m), c.want)
		}
		if s.Seek(api.MaxTime - 1); s.Now().Stop != api.None {
			t.Errorf("%s\nat moment %d: %q", c.source, api.MaxTime-1, shown(s.Now()))
		}
	}
}

// TestSourcesOfFullSize: sources that use up their bytes for one thing.
func TestSourcesOfFullSize(t *testing.T) {
	fill := func(opening, middle, closing string) string {
		count := (api.MaxSource - len(in(middle))) / (len(opening) + len(closing))
		return in(strings.Repeat(opening, count) + middle + strings.Repeat(closing, count))
	}
	inPrint := func(opening, middle, closing string) string {
		count := (api.MaxSource - len(in("print "+middle+";"))) / (len(opening) + len(closing))
		return in("print " + strings.Repeat(opening, count) + middle + strings.Repeat(closing, count) + ";")
	}
	for _, c := range []struct {
		source, printed string
		stop            api.Stop
	}{
		{inPrint("(", "7", ")"), "7", api.Done}, {inPrint("[", "7", "]"), "", api.Large}, {inPrint("--", "7", ""), "7", api.Done}, {inPrint("!!", "true", ""), "true", api.Done},
		{inPrint("", "7", "-1"), "-981", api.Done}, {inPrint("[0][", "0", "]"), "0", api.Done}, {inPrint("", "\"é\"", "[0]"), "é", api.Done}, {inPrint("len([", "7", "])"), "1", api.Done},
		{inPrint("false||", "true", ""), "true", api.Done}, {inPrint("", "\"é\"", "+\"é\""), "", api.Large}, {fill("if true{", "print 7;", "}"), "7", api.Done}, {fill("if false{}else{", "print 7;", "}"), "7", api.Done}, {fill("while true{", "return;", "}"), "", api.Done},
		{fill("print 7;", "", ""), strings.TrimSuffix(strings.Repeat("7/", 50), "/"), api.Output}, {fill("", "", "len(\"\");"), "", api.Done}, {in("") + strings.Repeat("//\n", 600), "", api.Done},
	} {
		all := allMoments(t, started(t, c.source))
		last := all[len(all)-1]
		if got := strings.Join(last.Output, "/"); got != c.printed || last.Stop != c.stop {
			t.Errorf("%.60s..\nprints %q and stops by %s, want %q, %s", c.source, got, stopName(last.Stop), c.printed, stopName(c.stop))
		}
	}
}
