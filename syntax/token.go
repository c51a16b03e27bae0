package syntax

import (
	"strconv"
	"strings"

	"hindsight/api"
)

type tokenSort int

const (
	markToken tokenSort = iota // a keyword, or one of marks
	nameToken
	numberToken
	stringToken
	endToken // the end of the source: it spares the parser a look at its length
)

type token struct {
	sort  tokenSort
	text  string // of a string: without its quotes
	value int64  // of a number
	line  int
}

// The longer marks stand first: at each place the longest token is taken.
var marks = [...]string{
	"==", "!=", "<=", "&&", "||",
	"(", ")", "{", "}", "[", "]", ",", ";", "=", "<", "+", "-", "*", "/", "%", "!",
}

type scanner struct {
	source string
	at     int
	line   int
}

// scan reads the whole source ahead of the parser, since a Token fault behind
// a Form fault is the one that is told.
func scan(source string) []token {
	s := scanner{source: source, line: 1}
	var tokens []token
	for s.skip(); s.at < len(source); s.skip() {
		tokens = append(tokens, s.token())
	}
	return append(tokens, token{sort: endToken, line: s.line})
}

// skip leaves the byte 10 that ends a remark to the next round, which counts it.
func (s *scanner) skip() {
	for s.at < len(s.source) {
		rest := s.source[s.at:]
		switch {
		case rest[0] == '\n':
			s.line++
			s.at++
		case rest[0] == ' ' || rest[0] == '\t':
			s.at++
		case strings.HasPrefix(rest, "//"):
			s.at += span(rest, isWithinLine)
		default:
			return
		}
	}
}

func (s *scanner) token() token {
	switch first := s.source[s.at]; {
	case isLetter(first):
		return s.name()
	case isDigit(first):
		return s.number()
	case first == '"':
		return s.text()
	}
	return s.mark()
}

func (s *scanner) name() token {
	text := s.take(span(s.source[s.at:], isLetterOrDigit))
	if len(text) > api.MaxName {
		s.fail()
	}
	if isKeyword(text) {
		return token{sort: markToken, text: text, line: s.line}
	}
	return token{sort: nameToken, text: text, line: s.line}
}

func (s *scanner) number() token {
	text := s.take(span(s.source[s.at:], isDigit))
	value, err := strconv.ParseInt(text, 10, 64)
	if err != nil {
		s.fail()
	}
	return token{sort: numberToken, text: text, value: value, line: s.line}
}

func (s *scanner) text() token {
	s.take(1)
	text := s.take(span(s.source[s.at:], isWithinString))
	if len(text) > api.MaxString || s.at == len(s.source) || s.source[s.at] != '"' {
		s.fail()
	}
	s.take(1)
	return token{sort: stringToken, text: text, line: s.line}
}

func (s *scanner) mark() token {
	for _, mark := range marks {
		if strings.HasPrefix(s.source[s.at:], mark) {
			return token{sort: markToken, text: s.take(len(mark)), line: s.line}
		}
	}
	s.fail()
	return token{}
}

func (s *scanner) take(size int) string {
	taken := s.source[s.at : s.at+size]
	s.at += size
	return taken
}

// fail tells the line of the token's beginning: no token goes beyond its line.
func (s *scanner) fail() {
	fail(api.Token, s.line)
}

// span tells how many bytes at the beginning of text belong together.
func span(text string, belongs func(byte) bool) int {
	size := 0
	for size < len(text) && belongs(text[size]) {
		size++
	}
	return size
}

func isLetter(b byte) bool {
	return 'a' <= b && b <= 'z' || 'A' <= b && b <= 'Z' || b == '_'
}

func isDigit(b byte) bool { return '0' <= b && b <= '9' }

func isLetterOrDigit(b byte) bool { return isLetter(b) || isDigit(b) }

func isWithinLine(b byte) bool { return b != '\n' }

func isWithinString(b byte) bool { return b != '"' && b != '\n' }

func isKeyword(name string) bool {
	switch name {
	case "func", "var", "if", "else", "while", "return", "print", "true", "false":
		return true
	}
	return false
}
