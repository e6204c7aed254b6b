package window

import (
	"math"
	"testing"

	"reservoir/api"
)

func made(t *testing.T, n int) Window {
	t.Helper()
	w, no := New(n)
	if no != api.OK || w.Left() != n {
		t.Fatal(n, no)
	}
	return w
}

// low returns a window of a negative size.
func low(t *testing.T, n int) Window {
	t.Helper()
	w, ok := Window{}.Shift(-n, 0)
	if !ok || w.Left() != n {
		t.Fatal(n, w, ok)
	}
	return w
}

func TestP12_1New(t *testing.T) {
	made(t, 0)
	made(t, api.Window)
	made(t, api.MaxWindow)
	for _, n := range []int{-1, api.MaxWindow + 1, math.MinInt64, math.MaxInt64} {
		if w, no := New(n); w != (Window{}) || no != api.ErrArg {
			t.Error(n, w, no)
		}
	}
	var zero Window
	if zero.Left() != 0 {
		t.Error(zero.Left())
	}
}

func TestP12_2Credit(t *testing.T) {
	for _, c := range []struct {
		w    Window
		n    int
		left int
		ok   bool
	}{
		{made(t, 1), api.MaxWindow, 1, false},
		{made(t, 1), api.MaxWindow - 1, api.MaxWindow, true},
		{made(t, 0), api.MaxWindow, api.MaxWindow, true},
		{made(t, 5), 0, 5, true},
		{made(t, 5), -1, 5, false},
		{low(t, -70), 80, 10, true},
		{low(t, -5), api.MaxWindow, api.MaxWindow - 5, true},
		{low(t, -5), api.MaxWindow + 1, -5, false},
		{made(t, 5), math.MaxInt64, 5, false},
		{made(t, 5), math.MinInt64, 5, false},
	} {
		if w, ok := c.w.Credit(c.n); w.Left() != c.left || ok != c.ok {
			t.Error(c, w, ok)
		}
	}
}

func TestP12_2Take(t *testing.T) {
	for _, c := range []struct {
		w    Window
		n    int
		left int
		ok   bool
	}{
		{made(t, 10), 11, 10, false},
		{made(t, 10), 10, 0, true},
		{made(t, 0), 1, 0, false},
		{made(t, 0), 0, 0, true},
		{made(t, 10), -1, 10, false},
		{low(t, -70), 0, -70, false},
		{made(t, api.MaxWindow), api.MaxWindow, 0, true},
		{made(t, 10), math.MaxInt64, 10, false},
		{made(t, 10), math.MinInt64, 10, false},
	} {
		if w, ok := c.w.Take(c.n); w.Left() != c.left || ok != c.ok {
			t.Error(c, w, ok)
		}
	}
	w := made(t, 10)
	w.Take(4)
	if w.Left() != 10 {
		t.Error("a window is a value")
	}
}

func TestP12_3Shift(t *testing.T) {
	top := api.MaxWindow
	for _, c := range []struct {
		w        Window
		old, now int
		left     int
		ok       bool
	}{
		{made(t, 20), 100, 10, -70, true},
		{made(t, 20), 10, 100, 110, true},
		{made(t, 20), 7, 7, 20, true},
		{made(t, 20), 0, 5, 25, true},
		{made(t, 20), 5, 0, 15, true},
		{made(t, 20), -1, 7, 20, false},
		{made(t, 20), 7, -1, 20, false},
		{made(t, 20), top + 1, 7, 20, false},
		{made(t, 20), 7, top + 1, 20, false},
		{made(t, 1), 0, top, 1, false},
		{made(t, 1), 1, top, top, true},
		{made(t, 0), top, 0, -top, true},
		{low(t, -1), top, 0, -1, false},
		{low(t, -1), top, 1, -top, true},
		{made(t, 20), math.MinInt64, math.MaxInt64, 20, false},
	} {
		if w, ok := c.w.Shift(c.old, c.now); w.Left() != c.left || ok != c.ok {
			t.Error(c, w, ok)
		}
	}
}

func TestP12_4Least(t *testing.T) {
	for i, c := range []struct {
		got, want int
	}{
		{Least(5, made(t, 3), made(t, 9)), 3}, {Least(5), 5}, {Least(5, made(t, 9)), 5}, {Least(5, made(t, 9), made(t, 2)), 2},
		{Least(-5), 0}, {Least(-5, made(t, 3)), 0}, {Least(5, low(t, -3), made(t, 2)), 0}, {Least(0, made(t, 2)), 0},
		{Least(math.MaxInt64), math.MaxInt64}, {Least(math.MinInt64), 0}, {Least(math.MaxInt64, made(t, 0)), 0},
	} {
		if c.got != c.want {
			t.Error(i, c.got)
		}
	}
}

func TestP12_5SizeIsWhatWasDone(t *testing.T) {
	w, size, initial := made(t, 100), 100, 100
	for i := range 500 {
		n := i * i * 7919 % 500000007
		before := w
		var ok bool
		change := n
		switch i % 3 {
		case 0:
			w, ok = w.Credit(n)
		case 1:
			w, ok = w.Take(n)
			change = -n
		case 2:
			w, ok = w.Shift(initial, n)
			change = n - initial
			if ok {
				initial = n
			}
		}
		if ok {
			size += change
		} else if w != before {
			t.Error(i, w, before)
		}
		if w.Left() != size || size > api.MaxWindow || size < -api.MaxWindow {
			t.Error(i, w, size)
		}
	}
}
