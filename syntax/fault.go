package syntax

import "hindsight/api"

// Fault is what the reading of a source gives up with, by panic. The face
// catches it there, so that no step between has to hand it on.
type Fault struct {
	Kind api.Kind
	Line int
}

func fail(kind api.Kind, line int) {
	panic(Fault{Kind: kind, Line: line})
}
