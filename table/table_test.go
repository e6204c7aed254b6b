package table

import (
	"math"
	"strings"
	"testing"

	"reservoir/api"
	"reservoir/fields"
)

func field(name, value string) api.Field { return api.Field{Name: name, Value: value} }

func made(t *testing.T, most int, l ...api.Field) *Table {
	x, no := New(most)
	if no != api.OK {
		t.Fatal(most, no)
	}
	for _, f := range l {
		x.Add(f)
	}
	return x
}

// holds checks the fields of x, the newest first.
func holds(t *testing.T, x *Table, l ...api.Field) {
	t.Helper()
	if x.Len() != len(l) || x.Size() != fields.Sum(l) || x.Size() > x.Most() {
		t.Error(x.Len(), x.Size(), x.Most(), l)
	}
	for i, want := range l {
		if f, ok := x.Get(62 + i); f != want || !ok {
			t.Error(i, f, ok)
		}
	}
	if f, ok := x.Get(62 + len(l)); f != (api.Field{}) || ok {
		t.Error(f, ok)
	}
}

func TestP6_1New(t *testing.T) {
	for _, most := range []int{0, 1, 4096, api.MaxTable} {
		if x := made(t, most); x.Most() != most {
			t.Error(most, x.Most())
		} else {
			holds(t, x)
		}
	}
	for _, most := range []int{-1, api.MaxTable + 1, math.MaxInt64, math.MinInt64} {
		if x, no := New(most); x != nil || no != api.ErrArg {
			t.Error(most, no)
		}
	}
}

func TestP6_2Add(t *testing.T) {
	a, b, c := field("a", "1"), field("b", "2"), field("c", "3")
	x := made(t, 70, a, b)
	holds(t, x, b, a)
	x.Add(c)
	holds(t, x, c, b)
	x.Add(field("ccc", ""))
	holds(t, x, field("ccc", ""), c)
	// Exactly as large as the table.
	whole := field("n", strings.Repeat("v", 37))
	x.Add(whole)
	holds(t, x, whole)
	// Larger than the table: everything goes.
	x.Add(field("nn", strings.Repeat("v", 37)))
	holds(t, x)
	holds(t, made(t, 0, a))
	holds(t, made(t, 32, field("", ""), field("", "")), field("", ""))
	holds(t, made(t, 200, a, a, a), a, a, a)
}

func TestP6_2AddRemovesNoMoreThanNeeded(t *testing.T) {
	a, b := field("a", "1"), field("b", "2")
	holds(t, made(t, 68, a, b), b, a)
	holds(t, made(t, 67, a, b), b)
	x := made(t, 102, a, b, a)
	x.Add(field("bb", "22"))
	holds(t, x, field("bb", "22"), a)
	x = made(t, 102, a, b, a)
	x.Add(b)
	holds(t, x, b, a, b)
}

func TestP6_3Resize(t *testing.T) {
	a, b := field("a", "1"), field("b", "2")
	x := made(t, 70, a, b)
	for _, c := range []struct{ most, left int }{{69, 2}, {68, 2}, {67, 1}, {34, 1}, {33, 0}, {4096, 0}, {0, 0}, {api.MaxTable, 0}} {
		if no := x.Resize(c.most); no != api.OK || x.Len() != c.left || x.Most() != c.most {
			t.Error(c, no, x.Len(), x.Most())
		}
	}
	y := made(t, 70, a, b)
	for _, most := range []int{-1, api.MaxTable + 1, math.MaxInt64, math.MinInt64} {
		if no := y.Resize(most); no != api.ErrArg || y.Most() != 70 {
			t.Error(most, no)
		}
	}
	holds(t, y, b, a)
	y.Resize(40)
	holds(t, y, b)
}

func TestP6_4Get(t *testing.T) {
	x := made(t, 4096, field("a", "1"), field("b", "2"))
	for i := -1; i <= 61; i++ {
		want, is := fields.Static(i)
		if f, ok := x.Get(i); f != want || ok != is {
			t.Error(i, f, ok)
		}
	}
	holds(t, x, field("b", "2"), field("a", "1"))
	for _, i := range []int{0, 64, math.MaxInt64, math.MinInt64} {
		if f, ok := x.Get(i); f != (api.Field{}) || ok {
			t.Error(i, f, ok)
		}
	}
}

func TestP6_5Find(t *testing.T) {
	x := made(t, 4096, field("zz", "1"), field("age", "5"), field("zz", "2"), field("age", "5"), field("zz", "1"), field(":method", "GET"))
	for _, c := range []struct {
		f     api.Field
		i     int
		whole bool
	}{
		{field(":method", "POST"), 3, true},
		{field(":method", "GET"), 2, true},
		{field(":method", "PUT"), 2, false},
		{field(":status", "999"), 8, false},
		{field("age", ""), 21, true},
		{field("age", "5"), 64, true},
		{field("age", "6"), 21, false},
		{field("zz", "1"), 63, true},
		{field("zz", "2"), 65, true},
		{field("zz", "3"), 63, false},
		{field("yy", "1"), 0, false},
		{field("", ""), 0, false},
		{field("www-authenticate", ""), 61, true},
		{field(":authority", ""), 1, true},
		{field(":authority", "a"), 1, false},
	} {
		if i, whole := x.Find(c.f); i != c.i || whole != c.whole {
			t.Error(c, i, whole)
		}
	}
	if i, whole := made(t, 100, field("old", "1"), field("new", "2")).Find(field("old", "1")); i != 63 || !whole {
		t.Error("the oldest one", i, whole)
	}
	y := made(t, 0)
	if i, whole := y.Find(field("age", "5")); i != 21 || whole {
		t.Error(i, whole)
	}
	if i, whole := y.Find(field("zz", "")); i != 0 || whole {
		t.Error(i, whole)
	}
}

func TestP6_6TheNewestAreLeft(t *testing.T) {
	x := made(t, 300)
	var all []api.Field
	for i := range 200 {
		f := field(strings.Repeat("n", i%7), strings.Repeat("v", i*i%53))
		x.Add(f)
		all = append([]api.Field{f}, all...)
		holds(t, x, all[:x.Len()]...)
		if i%13 == 0 {
			x.Resize(100 + i*37%250)
			holds(t, x, all[:x.Len()]...)
		}
	}
}
