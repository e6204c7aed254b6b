package guard

import (
	"errors"
	"testing"

	"reservoir/api"
)

func fault(code, at int) api.Fault { return api.Fault{Code: code, At: at} }

func raise(code, at int) func() { return func() { Raise(code, at) } }

func nothing() {}

// panicOf returns what f panics with.
func panicOf(f func()) (r any) {
	defer func() { r = recover() }()
	f()
	return nil
}

func TestP1_1RaiseAndMust(t *testing.T) {
	for _, c := range [][2]int{{3, 7}, {0, 0}, {-1, -9}, {1 << 40, 2}} {
		if r := panicOf(raise(c[0], c[1])); r != fault(c[0], c[1]) {
			t.Error("Raise", c, r)
		}
		if r := panicOf(func() { Must(false, c[0], c[1]) }); r != fault(c[0], c[1]) {
			t.Error("Must false", c, r)
		}
		if r := panicOf(func() { Must(true, c[0], c[1]) }); r != nil {
			t.Error("Must true", c, r)
		}
	}
}

func TestP1_2CallCatchesFaults(t *testing.T) {
	if f, ok := Call(raise(3, 7)); f != fault(3, 7) || !ok {
		t.Error(f, ok)
	}
	if f, ok := Call(raise(0, 0)); f != (api.Fault{}) || !ok {
		t.Error("the zero fault counts as raised", f, ok)
	}
	if f, ok := Call(nothing); f != (api.Fault{}) || ok {
		t.Error(f, ok)
	}
	if f, ok := Call(func() { Must(false, 2, 9) }); f != fault(2, 9) || !ok {
		t.Error(f, ok)
	}
	if f, ok := Call(func() { panic(fault(5, 6)) }); f != fault(5, 6) || !ok {
		t.Error(f, ok)
	}
}

func TestP1_2CallLetsOthersPass(t *testing.T) {
	pointer := &api.Fault{Code: 1, At: 1}
	for i, thing := range []any{errors.New("own"), "text", 7, pointer, api.ErrForm} {
		if r := panicOf(func() { Call(func() { panic(thing) }) }); r != thing {
			t.Error(i, r)
		}
	}
	index := func() { var l []int; l[len(l)]++ }
	r := panicOf(func() { Call(index) })
	if _, ok := r.(error); !ok {
		t.Error("a wrong index passes", r)
	}
}

func TestP1_3First(t *testing.T) {
	calls := 0
	count := func() { calls++ }
	i, f, ok := First(count, raise(4, 1), raise(5, 1), count)
	if i != 1 || f != fault(4, 1) || !ok || calls != 1 {
		t.Error(i, f, ok, calls)
	}
	if i, f, ok := First(); i != -1 || f != (api.Fault{}) || ok {
		t.Error(i, f, ok)
	}
	calls = 0
	if i, f, ok := First(count, count, count); i != -1 || f != (api.Fault{}) || ok || calls != 3 {
		t.Error(i, f, ok, calls)
	}
	if i, _, ok := First(raise(0, 0)); i != 0 || !ok {
		t.Error(i, ok)
	}
	if r := panicOf(func() { First(nothing, func() { panic("x") }, count) }); r != "x" || calls != 3 {
		t.Error(r, calls)
	}
}

func TestP1_4Last(t *testing.T) {
	text := func(s string) func() { return func() { panic(s) } }
	for i, c := range []struct {
		f, g   func()
		want   api.Fault
		raised bool
		panics any
	}{
		{raise(1, 1), raise(2, 2), fault(2, 2), true, nil},
		{raise(1, 1), nothing, fault(1, 1), true, nil},
		{nothing, raise(2, 2), fault(2, 2), true, nil},
		{nothing, nothing, api.Fault{}, false, nil},
		{text("f"), nothing, api.Fault{}, false, "f"},
		{text("f"), raise(2, 2), fault(2, 2), true, nil},
		{raise(1, 1), text("g"), api.Fault{}, false, "g"},
		{nothing, text("g"), api.Fault{}, false, "g"},
		{text("f"), text("g"), api.Fault{}, false, "g"},
		{raise(1, 1), func() { recover() }, fault(1, 1), true, nil},
		{raise(1, 1), func() { Call(raise(3, 3)) }, fault(1, 1), true, nil},
	} {
		order := ""
		var got api.Fault
		raised := false
		r := panicOf(func() {
			got, raised = Last(func() { order += "f"; c.f() }, func() { order += "g"; c.g() })
		})
		if got != c.want || raised != c.raised || r != c.panics || order != "fg" {
			t.Error(i, got, raised, r, order)
		}
	}
	if f, ok := Last(raise(1, 1), func() { recover() }); f != fault(1, 1) || !ok {
		t.Error("g itself does not catch what f raised", f, ok)
	}
}

func TestP1_5InnermostCatches(t *testing.T) {
	steps := ""
	outer, caught := Call(func() {
		steps += "a"
		inner, in := Call(func() {
			steps += "b"
			func() {
				defer func() { steps += "c" }()
				Raise(1, 2)
			}()
			steps += "x"
		})
		if inner != fault(1, 2) || !in {
			t.Error(inner, in)
		}
		steps += "d"
		Raise(3, 4)
		steps += "y"
	})
	if outer != fault(3, 4) || !caught || steps != "abcd" {
		t.Error(outer, caught, steps)
	}
	// A Call that runs while another panic is under way leaves that one alone.
	f, ok := Call(func() {
		defer func() {
			if g, in := Call(nothing); g != (api.Fault{}) || in {
				t.Error(g, in)
			}
		}()
		Raise(8, 8)
	})
	if f != fault(8, 8) || !ok {
		t.Error(f, ok)
	}
}
