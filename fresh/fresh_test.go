package fresh

import (
	"math"
	"testing"

	"reservoir/api"
	"reservoir/day"
)

const made = 784111777

// entry is one of the status 200 that was asked and came at these times.
func entry(asked, came int, s ...string) api.Entry {
	e := api.Entry{Response: api.Response{Status: 200}, Asked: asked, Came: came}
	for i := 0; i < len(s); i += 2 {
		e.Response.Fields = append(e.Response.Fields, api.Field{Name: s[i], Value: s[i+1]})
	}
	return e
}

func at(seconds int) string { return day.Show(made + seconds) }

func lives(t *testing.T, want int, s ...string) {
	t.Helper()
	if got := Lifetime(entry(made, made, s...), 0.1); got != want {
		t.Error(s, got)
	}
}

func TestP19_1Said(t *testing.T) {
	lives(t, 9, "cache-control", "max-age=5, s-maxage=9")
	lives(t, 0, "cache-control", "max-age=5, s-maxage=0", "expires", at(60))
	lives(t, 5, "cache-control", "max-age=5", "expires", at(60), "last-modified", at(-1000))
	lives(t, 0, "cache-control", "max-age=x", "expires", at(60))
	lives(t, api.MaxInt, "cache-control", "max-age=99999999999")
	lives(t, 60, "cache-control", "public", "expires", at(60), "date", at(0))
	lives(t, 0)
}

func TestP19_1Expires(t *testing.T) {
	lives(t, 60, "expires", at(60), "date", at(0))
	lives(t, 50, "expires", at(60), "date", at(10))
	lives(t, 60, "expires", at(60))
	lives(t, 60, "expires", at(60), "date", "x")
	lives(t, 60, "expires", at(60), "date", at(10), "date", at(10))
	lives(t, 0, "expires", at(60), "date", at(61))
	lives(t, 0, "expires", at(60), "date", at(60))
	lives(t, 0, "expires", "0", "last-modified", at(-1000))
	lives(t, 0, "expires", "", "last-modified", at(-1000))
	lives(t, 0, "expires", at(60), "expires", at(60), "last-modified", at(-1000))
	lives(t, 100, "Expires", at(60), "last-modified", at(-1000))
	if got := Lifetime(entry(0, -5, "expires", at(0)), 0); got != made {
		t.Error("the reading is clamped", got)
	}
	if got := Lifetime(entry(0, math.MaxInt64, "expires", day.Show(api.MaxInt-1e8)), 0); got != 0 {
		t.Error("the reading is clamped", got)
	}
	if got := Lifetime(entry(made+500, made, "expires", at(60)), 0); got != 60 {
		t.Error("came alone counts", got)
	}
}

func TestP19_1LastModified(t *testing.T) {
	lives(t, 10, "date", at(0), "last-modified", at(-100))
	lives(t, 10, "last-modified", at(-109))
	lives(t, 0, "last-modified", at(0))
	lives(t, 0, "last-modified", at(1))
	lives(t, 0, "date", at(-200), "last-modified", at(-100))
	lives(t, 0, "last-modified", at(-100), "last-modified", at(-100))
	lives(t, 0, "last-modified", "x")
	for status, want := range map[int]int{200: 10, 404: 10, 501: 10, 302: 0, 500: 0, 206: 0, 0: 0} {
		e := entry(made, made, "last-modified", at(-100))
		e.Response.Status = status
		if got := Lifetime(e, 0.1); got != want {
			t.Error(status, got)
		}
	}
	e := entry(made, made, "last-modified", at(-100))
	for _, c := range []struct {
		share float64
		want  int
	}{{0.1, 10}, {1, 100}, {2, 100}, {0, 0}, {-1, 0}, {math.NaN(), 0}, {math.Inf(1), 100}, {math.Inf(-1), 0}, {math.Copysign(0, -1), 0}, {0.999, 99}, {0.5, 50}} {
		if got := Lifetime(e, c.share); got != c.want {
			t.Error(c, got)
		}
	}
}

func TestP19_2Age(t *testing.T) {
	for i, c := range []struct {
		e    api.Entry
		now  int
		want int
	}{
		{entry(10, 12, "age", "7"), 20, 17},
		{entry(10, 12, "age", "7"), 5, 9},
		{entry(10, 12, "age", "7"), 12, 9},
		{entry(10, 12), 20, 10},
		{entry(10, 10), 20, 10},
		{entry(12, 10, "age", "7"), 20, 15},
		{entry(12, 10), 20, 10},
		{entry(10, 12, "age", "7", "age", "7"), 20, 10},
		{entry(10, 12, "age", "x"), 20, 10},
		{entry(10, 12, "age", ""), 20, 10},
		{entry(10, 12, "age", "-7"), 20, 10},
		{entry(10, 12, "Age", "7"), 20, 10},
		{entry(made, made+2, "date", at(-50)), made + 3, 53},
		{entry(made, made+2, "date", at(-50), "age", "60"), made + 3, 63},
		{entry(made, made+2, "date", at(-50), "age", "40"), made + 3, 53},
		{entry(made, made+2, "date", at(+50)), made + 3, 3},
		{entry(made, made+2, "date", at(+50), "age", "1"), made + 3, 4},
		{entry(made, made+2, "date", at(-50), "date", at(-50)), made + 3, 3},
		{entry(-5, -3, "age", "4"), -2, 4},
		{entry(-5, 3, "age", "4"), 5, 9},
		{entry(0, 0, "age", "99999999999"), 5, api.MaxInt},
		{entry(0, math.MaxInt64, "age", "99999999999"), math.MaxInt64, api.MaxInt},
		{entry(math.MinInt64, 0), math.MaxInt64, api.MaxInt},
		{entry(math.MaxInt64, math.MinInt64), math.MinInt64, api.MaxInt},
		{entry(math.MaxInt64, math.MaxInt64), 0, 0},
		{entry(0, 0), math.MinInt64, 0},
		{entry(10, 12), api.MaxInt + 100, api.MaxInt - 10},
	} {
		if got := Age(c.e, c.now); got != c.want {
			t.Error(i, got)
		}
	}
}

func TestP19_3Left(t *testing.T) {
	e := entry(10, 12, "age", "7", "cache-control", "max-age=20")
	for now, want := range map[int]int{12: 11, 20: 3, 23: 0, 24: -1, 5: 11, math.MaxInt64: 20 - (api.MaxInt - 3)} {
		if got := Left(e, now, 0); got != want {
			t.Error(now, got)
		}
	}
	f := entry(made, made, "last-modified", at(-100))
	if got := Left(f, made+3, 0.1); got != 7 {
		t.Error(got)
	}
}

func TestP19_4AgesDoNotDecrease(t *testing.T) {
	for i, e := range []api.Entry{entry(10, 12), entry(12, 10, "age", "9"), entry(made, made, "date", at(-1)), entry(math.MinInt64, math.MaxInt64), entry(0, 0, "age", "2147483647")} {
		last := 0
		for _, now := range []int{math.MinInt64, -1, 0, 5, 10, 11, 12, 13, 1000, made - 1, made, made + 1, api.MaxInt - 1, api.MaxInt, api.MaxInt + 1, math.MaxInt64} {
			age := Age(e, now)
			if age < last || age > api.MaxInt || Left(e, now, 1) > api.MaxInt {
				t.Error(i, now, age, last)
			}
			last = age
		}
		if Age(e, e.Came) != Age(e, math.MinInt64) {
			t.Error("the clock stands still", i)
		}
	}
}
