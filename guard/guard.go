// Package guard raises faults by a panic of the project's own kind, and
// catches this kind alone.
package guard

import "reservoir/api"

// Raise panics with the fault of code and at.
func Raise(code, at int) {
	panic(api.Fault{Code: code, At: at})
}

// Must raises the fault of code and at unless ok holds.
func Must(ok bool, code, at int) {
	if !ok {
		Raise(code, at)
	}
}

// Call calls f and returns the fault that f raised, if it raised one.
func Call(f func()) (fault api.Fault, raised bool) {
	defer func() {
		thing := recover()
		if thing == nil {
			return
		}
		own, ok := thing.(api.Fault)
		if !ok {
			panic(thing)
		}
		fault, raised = own, true
	}()
	f()
	return api.Fault{}, false
}

// First calls its arguments up to the first one that raises a fault, and
// returns that one's index, or -1.
func First(fs ...func()) (int, api.Fault, bool) {
	for i, f := range fs {
		if fault, raised := Call(f); raised {
			return i, fault, true
		}
	}
	return -1, api.Fault{}, false
}

// Last calls f and then g, whatever f does; a panic of g replaces one of f.
func Last(f func(), g func()) (api.Fault, bool) {
	return Call(func() {
		// A literal around g: deferred by itself, g could recover what f
		// panicked with.
		defer func() { g() }()
		f()
	})
}
