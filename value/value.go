// Package value has the values of programs, and what is done with them.
package value

import "hindsight/api"

// Value is an Int, a Bool, a Str or a List. None is ever changed: where a list
// is to be another, it is made anew. So values are handed on as they are, and
// yet a program finds that each variable has its own.
type Value interface {
	isValue() // keeps a fifth type out
}

// The four sorts of values.
type (
	// Int wraps round at 64 bits.
	Int int64
	// Bool is true or false.
	Bool bool
	// Str is a text in UTF-8.
	Str string
	// List has values of any sort.
	List []Value
)

func (Int) isValue()  {}
func (Bool) isValue() {}
func (Str) isValue()  {}
func (List) isValue() {}

// Stop is what a run gives up with, by panic, however deep it is within an
// expression. The step of the run catches it.
type Stop api.Stop

func cells(v Value) int {
	switch v := v.(type) {
	case Str:
		return 1 + len(v)
	case List:
		sum := 1
		for _, inner := range v {
			sum += cells(inner)
		}
		return sum
	}
	return 1
}

// limited gives the value back if it is not too large.
func limited(v Value) Value {
	if cells(v) > api.MaxCells {
		panic(Stop(api.Large))
	}
	return v
}
