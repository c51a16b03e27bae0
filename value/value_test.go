package value

import (
	"slices"
	"strings"
	"testing"

	"hindsight/api"
)

// stopOf tells the stop that work gives up with; None if it does not.
func stopOf(work func()) (stop api.Stop) {
	defer func() {
		if given := recover(); given != nil {
			stop = api.Stop(given.(Stop))
		}
	}()
	work()
	return api.None
}

func TestCells(t *testing.T) {
	for _, c := range []struct {
		value Value
		want  int
	}{
		{Int(0), 1}, {Int(-1 << 63), 1}, {Bool(false), 1}, {Str(""), 1}, {Str("né"), 4}, {Str("😀"), 5}, {List(nil), 1}, {List{}, 1},
		{List{Int(1), Bool(true)}, 3}, {List{List{}, List{Str("日")}}, 7},
	} {
		if got := cells(c.value); got != c.want {
			t.Errorf("%s has %d cells, want %d", Written(c.value), got, c.want)
		}
	}
}

func TestWrittenAndText(t *testing.T) {
	for _, c := range []struct {
		value         Value
		written, text string
	}{
		{Int(-1 << 63), "-9223372036854775808", "-9223372036854775808"}, {Bool(true), "true", "true"}, {Bool(false), "false", "false"},
		{Str("né"), "\"né\"", "né"}, {Str(""), "\"\"", ""}, {List{}, "[]", "[]"}, {List{Str("a"), List{Int(1), Str("")}}, "[\"a\", [1, \"\"]]", "[\"a\", [1, \"\"]]"},
	} {
		if written, text := Written(c.value), Text(c.value); written != c.written || text != c.text {
			t.Errorf("%v is written %s, its text is %s, want %s, %s", c.value, written, text, c.written, c.text)
		}
	}
}

// TestNothingIsChanged: what a value is made from stays as it was.
func TestNothingIsChanged(t *testing.T) {
	inner := List{Int(1), Int(2)}
	outer := List{inner, Str("x")}
	changed := Change(outer, []Value{Int(0), Int(1)}, Int(9))
	joined := Binary("+", outer[:1:2], List{Int(5)})
	if Written(outer) != "[[1, 2], \"x\"]" || Written(inner) != "[1, 2]" {
		t.Errorf("changed: %s, %s", Written(outer), Written(inner))
	}
	if Written(changed) != "[[1, 9], \"x\"]" || Written(joined) != "[[1, 2], 5]" {
		t.Errorf("made: %s, %s", Written(changed), Written(joined))
	}
	indices := []Value{Int(0)}
	Change(outer, indices, Int(0))
	if !slices.Equal(indices, []Value{Int(0)}) {
		t.Errorf("the indices: %v", indices)
	}
}

func TestStops(t *testing.T) {
	long := Str(strings.Repeat("a", api.MaxCells-1))
	for _, c := range []struct {
		name string
		work func()
		want api.Stop
	}{
		{"a Bool", func() { Truth(Bool(false)) }, api.None}, {"no Bool", func() { Truth(Int(0)) }, api.Types},
		{"minus", func() { Unary("-", Bool(true)) }, api.Types}, {"not", func() { Unary("!", Int(1)) }, api.Types},
		{"two sorts", func() { Binary("+", Int(1), Str("")) }, api.Types}, {"two lists", func() { Binary("<", List{}, List{}) }, api.Types},
		{"by zero", func() { Binary("/", Int(1), Int(0)) }, api.Zero}, {"rest by zero", func() { Binary("%", Int(1), Int(0)) }, api.Zero},
		{"as large as may be", func() { Binary("+", long, Str("")) }, api.None}, {"too large", func() { Binary("+", long, Str("a")) }, api.Large},
		{"a list too large", func() { NewList([]Value{long}) }, api.Large}, {"len", func() { Len(Bool(true)) }, api.Types},
		{"below", func() { At(long, Int(-1)) }, api.Index}, {"beyond", func() { At(List{Int(1)}, Int(1)) }, api.Index}, {"into an Int", func() { At(Int(1), Int(0)) }, api.Types},
		{"into a Str", func() { Change(long, []Value{Int(0)}, long) }, api.Types}, {"no index", func() { Change(List{}, nil, long) }, api.None},
		{"by a Bool", func() { Change(List{Int(1)}, []Value{Bool(true)}, long) }, api.Types}, {"into it", func() { Change(List{Int(1)}, []Value{Int(0)}, long) }, api.Large},
	} {
		if got := stopOf(c.work); got != c.want {
			t.Errorf("%s: stop %d, want %d", c.name, got, c.want)
		}
	}
}
