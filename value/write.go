package value

import (
	"strconv"
	"strings"
)

// Written gives a value as it is written in a source.
func Written(v Value) string {
	switch v := v.(type) {
	case Int:
		return strconv.FormatInt(int64(v), 10)
	case Bool:
		return strconv.FormatBool(bool(v))
	case Str:
		return `"` + string(v) + `"`
	case List:
		return "[" + joined(v) + "]"
	}
	return ""
}

// Text gives a value as it is printed: a Str is itself, but not within a list.
func Text(v Value) string {
	if v, ok := v.(Str); ok {
		return string(v)
	}
	return Written(v)
}

func joined(list List) string {
	var written []string
	for _, v := range list {
		written = append(written, Written(v))
	}
	return strings.Join(written, ", ")
}
