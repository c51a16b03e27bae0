package value

import (
	"slices"

	"hindsight/api"
)

// Truth tells what a Bool is; another value stops.
func Truth(v Value) bool {
	b, ok := v.(Bool)
	if !ok {
		panic(Stop(api.Types))
	}
	return bool(b)
}

// Unary works out an operator ahead of a value.
func Unary(operator string, v Value) Value {
	if operator == "!" {
		return Bool(!Truth(v))
	}
	i, ok := v.(Int)
	if !ok {
		panic(Stop(api.Types))
	}
	return -i
}

// Binary works out an operator between two values. (Not && and ||: they may
// leave their right one alone.)
func Binary(operator string, a, b Value) Value {
	switch operator {
	case "==":
		return Bool(equal(a, b))
	case "!=":
		return Bool(!equal(a, b))
	}
	switch a := a.(type) {
	case Int:
		if b, ok := b.(Int); ok {
			return ofInts(operator, a, b)
		}
	case Str:
		if b, ok := b.(Str); ok {
			return ofStrs(operator, a, b)
		}
	case List:
		if b, ok := b.(List); ok {
			return ofLists(operator, a, b)
		}
	}
	panic(Stop(api.Types))
}

// equal asks for a List first: the language does not compare slices.
func equal(a, b Value) bool {
	if a, ok := a.(List); ok {
		b, ok := b.(List)
		return ok && slices.EqualFunc(a, b, equal)
	}
	return a == b
}

func ofInts(operator string, a, b Int) Value {
	switch operator {
	case "<":
		return Bool(a < b)
	case "<=":
		return Bool(a <= b)
	case "+":
		return a + b
	case "-":
		return a - b
	case "*":
		return a * b
	}
	if b == 0 {
		panic(Stop(api.Zero))
	}
	if operator == "/" {
		return a / b
	}
	return a % b
}

func ofStrs(operator string, a, b Str) Value {
	switch operator {
	case "<":
		return Bool(a < b)
	case "<=":
		return Bool(a <= b)
	case "+":
		return limited(a + b)
	}
	panic(Stop(api.Types))
}

func ofLists(operator string, a, b List) Value {
	if operator != "+" {
		panic(Stop(api.Types))
	}
	return limited(slices.Concat(a, b))
}
