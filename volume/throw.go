package volume

import "shadow/api"

// thrown is an error on its way up to Catch; by its type it is told from panics that are not the program's.
type thrown struct {
	error
}

// failure is what a device told at a call. It wraps ErrIO and nothing else: a device may tell any error, even a number that means something else to callers.
type failure struct {
	call, told string
}

func (f *failure) Error() string { return f.call + ": " + f.told }

// Unwrap tells what is wrong.
func (f *failure) Unwrap() error { return api.ErrIO }

// fail throws what a device told. Its words are asked for here, below Catch, since even that may panic.
func fail(call string, told error) {
	Throw(&failure{call, told.Error()})
}

// Throw leaves all that is under way, up to Catch.
func Throw(err error) {
	panic(thrown{err})
}

// Catch does the work of a call, and tells what was thrown in it as an error of that call.
func Catch(call string, work func()) (err error) {
	defer func() {
		if r := recover(); r != nil {
			err = &api.Fault{Op: call, E: wrong(r)}
		}
	}()
	work()
	return nil
}

// wrong is the error in what was recovered. What the program did not throw came from the device, which is not the program's: it broke down.
func wrong(r any) error {
	if t, ok := r.(thrown); ok {
		return t.error
	}
	return api.ErrIO
}
