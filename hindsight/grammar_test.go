package hindsight_test

import (
	"slices"
	"strings"
	"testing"

	"hindsight/api"
	"hindsight/hindsight"
)

// The rules of the document, word by word. The tests here make token lists from
// them and find their faults in other ways than the program does.
const rules = `
    program   = { function }
    function  = 'func' name '(' [ name { ',' name } ] ')' block
    block     = '{' { statement } '}'
    statement = 'var' name '=' expr ';'
              | name { '[' expr ']' } '=' expr ';'
              | 'if' expr block [ 'else' block ]
              | 'while' expr block
              | 'return' [ expr ] ';'
              | 'print' expr ';'
              | name '(' [ expr { ',' expr } ] ')' ';'
    expr      = and { '||' and }
    and       = relation { '&&' relation }
    relation  = sum [ ( '==' | '!=' | '<' | '<=' ) sum ]
    sum       = product { ( '+' | '-' ) product }
    product   = unary { ( '*' | '/' | '%' ) unary }
    unary     = ( '-' | '!' ) unary | part
    part      = primary { '[' expr ']' }
    primary   = number | string | 'true' | 'false' | '(' expr ')' | '[' [ expr { ',' expr } ] ']'
              | name | name '(' [ expr { ',' expr } ] ')'
`

// grammar has for each rule its alternatives; a quoted word is a token, and so
// are name, number and string.
type grammar map[string][][]string

// ruleReader makes plain alternatives of the rules: what stands in brackets
// becomes a rule of its own.
type ruleReader struct {
	words []string
	out   grammar
}

// readRules gives the rules for texts that are whole programs, or whatever the
// goal is.
func readRules(goal string) grammar {
	r := &ruleReader{words: strings.Fields(rules), out: grammar{}}
	for len(r.words) > 0 {
		name := r.words[0]
		r.words = r.words[2:]
		r.out[name] = r.alternatives()
	}
	r.out["goal"] = [][]string{{goal}}
	return r.out
}

func (r *ruleReader) alternatives() [][]string {
	all := [][]string{nil}
	for len(r.words) > 0 && !strings.Contains(") ] }", r.words[0]) {
		if len(r.words) > 1 && r.words[1] == "=" {
			break
		}
		word := r.words[0]
		r.words = r.words[1:]
		switch word {
		case "|":
			all = append(all, nil)
			continue
		case "(", "[", "{":
			word = r.group(word)
		}
		all[len(all)-1] = append(all[len(all)-1], word)
	}
	return all
}

func (r *ruleReader) group(opening string) string {
	inner := r.alternatives()
	r.words = r.words[1:]
	name := opening + string(rune('A'+len(r.out)))
	if opening == "{" {
		for i := range inner {
			inner[i] = append(inner[i], name)
		}
	}
	if opening != "(" {
		inner = append(inner, nil)
	}
	r.out[name] = inner
	return name
}

// item is an alternative of a rule, read up to at, begun at token from.
type item struct {
	rule     string
	which    int
	at, from int
}

// formFault tells the place of the first token with which no text of the goal
// goes on (len(tokens): it ends too early), or -1. It follows all texts at once.
func (g grammar) formFault(tokens []string) int {
	sets := [][]item{{{rule: "goal"}}}
	for place := 0; ; place++ {
		g.close(sets, place)
		if place == len(tokens) {
			if slices.Contains(sets[place], item{rule: "goal", at: 1}) {
				return -1
			}
			return place
		}
		var next []item
		for _, i := range sets[place] {
			if alternative := g.alternative(i); i.at < len(alternative) && alternative[i.at] == tokens[place] {
				i.at++
				next = append(next, i)
			}
		}
		if next == nil {
			return place
		}
		sets = append(sets, next)
	}
}

func (g grammar) alternative(i item) []string { return g[i.rule][i.which] }

// close goes round until nothing comes to the last set any more, so that it
// needs no thought for rules that may be empty.
func (g grammar) close(sets [][]item, place int) {
	has := map[item]int{}
	for _, i := range sets[place] {
		has[i] = 1
	}
	add := func(i item) {
		if has[i] == 0 {
			has[i] = 1
			sets[place] = append(sets[place], i)
		}
	}
	for before := -1; before != len(sets[place]); {
		before = len(sets[place])
		for n := 0; n < len(sets[place]); n++ {
			i := sets[place][n]
			alternative := g.alternative(i)
			if i.at < len(alternative) {
				for which := range g[alternative[i.at]] {
					add(item{rule: alternative[i.at], which: which, from: place})
				}
				continue
			}
			for m := 0; m < len(sets[i.from]); m++ {
				j := sets[i.from][m]
				if waiting := g.alternative(j); j.at < len(waiting) && waiting[j.at] == i.rule {
					j.at++
					add(j)
				}
			}
		}
	}
}

// dice are the same at every run.
type dice uint64

func (d *dice) below(n int) int {
	*d = *d*6364136223846793005 + 1442695040888963407
	return int(uint64(*d)>>33) % n
}

// derive makes tokens by the rules; where budget is used up it takes what ends
// soonest.
func (g grammar) derive(d *dice, word string, budget *int) []string {
	alternatives := g[word]
	if alternatives == nil {
		return []string{word}
	}
	*budget--
	which := d.below(len(alternatives))
	if *budget < 0 {
		which = g.shortest(word)
	}
	var tokens []string
	for _, w := range alternatives[which] {
		tokens = append(tokens, g.derive(d, w, budget)...)
	}
	return tokens
}

func (g grammar) shortest(word string) int {
	switch word {
	case "unary":
		return 1
	case "statement":
		return 4
	}
	for which, alternative := range g[word] {
		if len(alternative) == 0 {
			return which
		}
	}
	return 0
}

// mutate makes a list of tokens that is wrong, most times.
func mutate(d *dice, tokens []string) []string {
	every := strings.Fields(`name name name number string 'func' 'var' 'if' 'else' 'while' 'return' 'print' 'true' 'false'
		'(' ')' '{' '}' '[' ']' ',' ';' '=' '==' '!=' '<' '<=' '+' '-' '*' '/' '%' '&&' '||' '!'`)
	at := d.below(len(tokens) + 1)
	other := every[d.below(len(every))]
	rest := tokens[at:]
	switch d.below(4) {
	case 0:
		return slices.Concat(tokens[:at], []string{other}, rest)
	case 1:
		return slices.Clone(tokens[:at])
	case 2:
		return slices.Concat(tokens[:at], []string{other}, rest[min(1, len(rest)):])
	}
	return slices.Concat(tokens[:at], rest[min(1, len(rest)):])
}

// written gives each token a text: a name is one of a few, so that many are
// there already, and many are not.
func written(d *dice, tokens []string) []string {
	names := strings.Fields("a b a b a b f g main len read")
	texts := make([]string, len(tokens))
	for i, token := range tokens {
		switch token {
		case "name":
			texts[i] = names[d.below(len(names))]
		case "number":
			texts[i] = "7"
		case "string":
			texts[i] = "\"func\""
		default:
			texts[i] = strings.Trim(token, "'")
		}
	}
	return texts
}

// expectForms makes many texts of a goal, of up to so many rules, and most of
// them wrong; it holds Form and its line to the document's rules.
func expectForms(t *testing.T, goal string, d dice, size int, fault func(text string) (api.Kind, int)) {
	t.Helper()
	g := readRules(goal)
	var good, bad int
	for range 6000 {
		budget := d.below(size)
		tokens := g.derive(&d, goal, &budget)
		for range d.below(3) {
			tokens = mutate(&d, tokens)
		}
		text := strings.Join(written(&d, tokens), "\n")
		if len(text) > api.MaxSource {
			continue
		}
		place := g.formFault(tokens)
		kind, line := fault(text)
		if place < 0 {
			good++
		} else {
			bad++
		}
		if place < 0 && kind < api.Main && kind != api.Fine ||
			place >= 0 && (kind != api.Form || line != min(place+1, 1+strings.Count(text, "\n"))) {
			t.Fatalf("%q has the fault %d, %d; it is at token %d", text, kind, line, place)
		}
	}
	if good < 500 || bad < 500 {
		t.Errorf("only %d good and %d bad texts", good, bad)
	}
}

func TestFormAgainstRules(t *testing.T) {
	expectForms(t, "program", 1, 90, hindsight.Check)
}

// scopes finds wrong names in one walk over the tokens, without their nodes.
type scopes struct {
	texts   []string
	counts  map[string]int // of the first function of each name
	have    map[string]int // the functions so far
	seen    [][]string     // the variables of each block that is open
	pending []string       // the variable of a var statement that has not ended
}

// nameFault tells the kind and the line of the first wrong name of a program
// that has one token a line.
func nameFault(texts []string) (api.Kind, int) {
	s := scopes{texts: texts, counts: map[string]int{"len": 1, "read": 0}, have: map[string]int{"len": 1, "read": 1}}
	for i, text := range texts {
		if _, ok := s.counts[s.at(i+1)]; text == "func" && !ok {
			s.counts[texts[i+1]] = s.values(i + 2)
		}
	}
	if count, ok := s.counts["main"]; !ok || count > 0 {
		return api.Main, 0
	}
	for i := range texts {
		if kind := s.look(i); kind != api.Fine {
			return kind, i + 1
		}
	}
	return api.Fine, 0
}

func (s *scopes) at(i int) string {
	if i < 0 || i >= len(s.texts) {
		return ""
	}
	return s.texts[i]
}

// values counts what stands between the bracket at i and its end.
func (s *scopes) values(i int) int {
	depth, count := 0, 0
	for ; ; i++ {
		switch s.texts[i] {
		case "(", "[":
			depth++
		case ")", "]":
			depth--
		case ",":
			if depth == 1 {
				count++
			}
		}
		if depth == 0 {
			break
		}
	}
	if s.texts[i-1] != "(" {
		count++
	}
	return count
}

func (s *scopes) look(i int) api.Kind {
	text := s.texts[i]
	switch {
	case text == "func":
		s.seen = [][]string{nil}
	case text == "{":
		s.seen = append(s.seen, nil)
	case text == "}":
		s.seen = s.seen[:len(s.seen)-1]
	case text == ";":
		last := len(s.seen) - 1
		s.seen[last] = append(s.seen[last], s.pending...)
		s.pending = nil
	case strings.Contains(" a b f g main len read ", " "+text+" "):
		return s.name(i)
	}
	return api.Fine
}

func (s *scopes) name(i int) api.Kind {
	text := s.texts[i]
	taken := text == "len" || text == "read" || slices.Contains(slices.Concat(s.seen...), text)
	switch {
	case s.at(i-1) == "func":
		s.have[text]++
		return nameIf(s.have[text] > 1)
	case len(s.seen) == 1:
		s.seen[0] = append(s.seen[0], text)
		return nameIf(taken)
	case s.at(i-1) == "var":
		s.pending = []string{text}
		return nameIf(taken)
	case s.at(i+1) == "(":
		count, ok := s.counts[text]
		if ok && count != s.values(i+1) {
			return api.Count
		}
		return nameIf(!ok)
	}
	return nameIf(!slices.Contains(slices.Concat(s.seen...), text))
}

func nameIf(wrong bool) api.Kind {
	if wrong {
		return api.Name
	}
	return api.Fine
}

// TestNamesAgainstTokens puts another name in the place of each wrong one, so
// that it comes to the later names too.
func TestNamesAgainstTokens(t *testing.T) {
	g := readRules("program")
	d := dice(2)
	var found [8]int
	for range 1000 {
		texts := namedProgram(g, &d)
		for range 40 {
			source := strings.Join(texts, "\n")
			if len(source) > api.MaxSource {
				break
			}
			kind, line := hindsight.Check(source)
			if k, l := nameFault(texts); kind != k || line != l {
				t.Fatalf("Check(%q) = %d, %d, want %d, %d", source, kind, line, k, l)
			}
			if kind != api.Fine || len(texts) > 50 {
				found[kind]++
			}
			if line == 0 {
				break
			}
			texts[line-1] = written(&d, []string{"name"})[0]
		}
	}
	for _, kind := range []api.Kind{api.Fine, api.Main, api.Name, api.Count} {
		if found[kind] < 100 {
			t.Errorf("only %d sources of kind %d", found[kind], kind)
		}
	}
}

func namedProgram(g grammar, d *dice) []string {
	var tokens []string
	budget := 400
	for range d.below(4) {
		tokens = append(tokens, strings.Fields("'func' name '(' name ')' '{'")...)
		for range d.below(8) {
			tokens = append(tokens, g.derive(d, "statement", &budget)...)
		}
		tokens = append(tokens, "'}'")
	}
	texts := written(d, append(tokens, g.derive(d, "program", &budget)...))
	if d.below(8) > 0 {
		texts = append(strings.Fields("func main ( ) { }"), texts...)
	}
	return texts
}
