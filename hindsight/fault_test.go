package hindsight

import (
	"testing"

	"hindsight/api"
	"hindsight/syntax"
)

func TestFaultOfCatchesFaults(t *testing.T) {
	kind, line := faultOf(func() { panic(syntax.Fault{Kind: api.Form, Line: 3}) })
	if kind != api.Form || line != 3 {
		t.Errorf("fault = %d, %d", kind, line)
	}
	if kind, line = faultOf(func() {}); kind != api.Fine || line != 0 {
		t.Errorf("no fault = %d, %d", kind, line)
	}
}

func TestFaultOfLetsOthersGoOn(t *testing.T) {
	defer func() {
		if given := recover(); given != "other" {
			t.Errorf("what came out: %v", given)
		}
	}()
	faultOf(func() { panic("other") })
}
