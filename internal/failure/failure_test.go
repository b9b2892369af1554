package failure

import (
	"errors"
	"testing"

	"metewand/api"
)

// TestGuarded: no panic leaves a function, and an error comes without a result.
func TestGuarded(t *testing.T) {
	var list []int
	for name, x := range map[string]struct {
		work func() string
		want api.Errno
	}{
		"nothing":     {func() string { return "x" }, api.OK},
		"no code":     {func() string { Check(api.OK); return "x" }, api.OK},
		"an error":    {func() string { Throw(api.ErrZero); return "x" }, api.ErrZero},
		"a code":      {func() string { Check(api.ErrOrder); return "x" }, api.ErrOrder},
		"another":     {func() string { panic(errors.New("x")) }, api.ErrLimit},
		"the machine": {func() string { return string(rune(list[3])) }, api.ErrLimit},
		"no error":    {func() string { panic("x") }, api.ErrLimit},
	} {
		s, e := Guarded(x.work)
		if e != x.want || (s != "") != (e == api.OK) {
			t.Error(name, s, e)
		}
	}
}
