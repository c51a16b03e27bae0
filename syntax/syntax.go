// Package syntax reads sources: it makes their nodes and finds their faults.
package syntax

import (
	"unicode/utf8"

	"hindsight/api"
)

// Read makes a program of a source; it panics with a Fault if there is one.
// Each look goes through the whole source before the next, since the order of
// the looks, not of the places, says which fault is told.
func Read(source string) Program {
	p := parserOf(source)
	program := p.program()
	checkMain(program)
	checkNames(program)
	return program
}

// ReadExpr makes a node of a text that is one expression; it panics with a Fault
// if it is none. The names are left to CheckExpr: which of them are there hangs
// on the moment, the rest does not.
func ReadExpr(text string) Node {
	p := parserOf(text)
	expr := p.expr()
	p.end()
	return expr
}

func parserOf(source string) parser {
	checkLength(source)
	checkEncoding(source)
	return parser{tokens: scan(source)}
}

func checkLength(source string) {
	if len(source) > api.MaxSource {
		fail(api.Long, 0)
	}
}

func checkEncoding(source string) {
	line := 1
	for at := 0; at < len(source); {
		char, size := utf8.DecodeRuneInString(source[at:])
		// A source may well hold the character RuneError itself; it has 3 bytes.
		if char == utf8.RuneError && size == 1 {
			fail(api.Encoding, line)
		}
		if char == '\n' {
			line++
		}
		at += size
	}
}
