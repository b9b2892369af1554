package whole

import (
	"errors"

	"metewand/api"
)

// failure ends a computation, however deep it is; guarded makes a result of it.
type failure struct{ api.Errno }

func throw(code api.Errno) {
	panic(failure{code})
}

// guarded returns what work returns, or the error code that it throws and a zero value.
func guarded[T any](work func() T) (result T, e api.Errno) {
	defer func() {
		if thrown := recover(); thrown != nil {
			e = codeOf(thrown)
		}
	}()
	return work(), api.OK
}

func codeOf(thrown any) api.Errno {
	if err, ok := thrown.(error); ok {
		var end failure
		if errors.As(err, &end) {
			return end.Errno
		}
	}
	// Nothing but a failure is thrown. Should this package have a fault, its callers still get no panic.
	return api.ErrLimit
}
