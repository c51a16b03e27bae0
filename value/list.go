package value

import (
	"slices"
	"unicode/utf8"

	"hindsight/api"
)

// NewList makes a list of values; it keeps the slice.
func NewList(values []Value) Value {
	return limited(List(values))
}

// Len tells how many values a List has, how many characters a Str.
func Len(v Value) Value {
	switch v := v.(type) {
	case List:
		return Int(len(v))
	case Str:
		return Int(utf8.RuneCountInString(string(v)))
	}
	panic(Stop(api.Types))
}

// At gives whole[at].
func At(whole, at Value) Value {
	switch whole := whole.(type) {
	case List:
		return whole[place(at, len(whole))]
	case Str:
		characters := []rune(whole)
		return Str(characters[place(at, len(characters))])
	}
	panic(Stop(api.Types))
}

// Change gives what a variable is to have behind an assignment.
func Change(whole Value, indices []Value, to Value) Value {
	return limited(changed(whole, indices, to))
}

func changed(whole Value, indices []Value, to Value) Value {
	if len(indices) == 0 {
		return to
	}
	list, ok := whole.(List)
	if !ok {
		panic(Stop(api.Types))
	}
	at := place(indices[0], len(list))
	list = slices.Clone(list)
	list[at] = changed(list[at], indices[1:], to)
	return list
}

// place gives an index as a number that a slice of this length can take.
func place(at Value, length int) int {
	i, ok := at.(Int)
	if !ok {
		panic(Stop(api.Types))
	}
	if i < 0 || i >= Int(length) {
		panic(Stop(api.Index))
	}
	return int(i)
}
