package ratio

import (
	"errors"

	"metewand/api"
)

// failure is the error that ends a computation, however deep it is.
type failure struct{ api.Errno }

func throw(code api.Errno) {
	panic(failure{code})
}

// guarded returns what work returns, or a zero value and the error code that it throws.
func guarded[T any](work func() T) (result T, e api.Errno) {
	defer func() {
		thrown := recover()
		if thrown == nil {
			return
		}
		// Nothing but a failure is thrown. Should this package have a fault, its callers still get no panic.
		e = api.ErrLimit
		if err, ok := thrown.(error); ok {
			var end failure
			if errors.As(err, &end) {
				e = end.Errno
			}
		}
	}()
	return work(), api.OK
}
