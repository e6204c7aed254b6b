package reuse

import (
	"math"
	"testing"

	"reservoir/api"
)

// list makes fields of names and values.
func list(s ...string) []api.Field {
	var l []api.Field
	for i := 0; i < len(s); i += 2 {
		l = append(l, api.Field{Name: s[i], Value: s[i+1]})
	}
	return l
}

// of decides on an entry that came at 0, at the time age.
func of(told string, age int, asked ...string) int {
	e := api.Entry{Response: api.Response{Status: 200, Fields: list("cache-control", told)}}
	return Of(e, api.Request{Method: "GET", Fields: list(asked...)}, age, 0)
}

func TestP21_1Examples(t *testing.T) {
	for i, c := range []struct{ got, want int }{
		{of("max-age=5", 3), Serve},
		{of("max-age=5", 5), Check},
		{of("max-age=5", 7, "cache-control", "max-stale=2"), Serve},
		{of("max-age=5, must-revalidate", 7, "cache-control", "max-stale=2"), Check},
		{of("max-age=5", 3, "cache-control", "no-cache"), Check},
		{of("max-age=5", 3, "cache-control", "max-age=2"), Check},
		{of("max-age=5", 3, "cache-control", "min-fresh=3, only-if-cached"), Refuse},
	} {
		if c.got != c.want {
			t.Error(i, c.got)
		}
	}
	if Serve != 1 || Check != 2 || Forward != 3 || Refuse != 4 {
		t.Error("numbers")
	}
}

// decides checks a decision, and that only-if-cached refuses what isn't served.
func decides(t *testing.T, want int, told string, age int, asked string) {
	t.Helper()
	if got := of(told, age, "cache-control", asked); got != want {
		t.Error(told, age, asked, got)
	}
	if want == Check {
		want = Refuse
	}
	if got := of(told, age, "cache-control", asked+", only-if-cached"); got != want {
		t.Error(told, age, asked, "only", got)
	}
}

func TestP21_1NoCacheAndMaxAge(t *testing.T) {
	decides(t, Check, "max-age=5, no-cache", 3, "")
	decides(t, Check, "max-age=5, no-cache", 3, "max-stale")
	decides(t, Check, "max-age=5", 3, "no-cache")
	decides(t, Check, "max-age=5", 9, "no-cache, max-stale")
	decides(t, Serve, "max-age=5", 3, "max-age=3")
	decides(t, Check, "max-age=5", 3, "max-age=2")
	decides(t, Serve, "max-age=5", 0, "max-age=0")
	decides(t, Check, "max-age=5", 1, "max-age=0")
	decides(t, Check, "max-age=5", 3, "max-age=2, max-stale=9")
	decides(t, Serve, "max-age=5", 7, "max-age=7, max-stale=2")
	decides(t, Check, "max-age=5", 7, "max-age=6, max-stale=2")
}

func TestP21_1Fresh(t *testing.T) {
	decides(t, Serve, "max-age=5", 4, "")
	decides(t, Check, "max-age=5", 5, "")
	decides(t, Check, "max-age=0", 0, "")
	decides(t, Serve, "max-age=5", 3, "min-fresh=2")
	decides(t, Check, "max-age=5", 3, "min-fresh=3")
	decides(t, Serve, "max-age=5", 3, "min-fresh=0")
	decides(t, Check, "max-age=5", 3, "min-fresh=3, max-stale=9")
	decides(t, Serve, "s-maxage=5, must-revalidate", 4, "")
	decides(t, Serve, "private, no-store, max-age=5", 4, "no-store, max-stale")
}

func TestP21_1Stale(t *testing.T) {
	decides(t, Serve, "max-age=5", 5, "max-stale=0")
	decides(t, Serve, "max-age=5", 7, "max-stale=2")
	decides(t, Check, "max-age=5", 8, "max-stale=2")
	decides(t, Serve, "max-age=5", 1000000, "max-stale")
	decides(t, Check, "max-age=5, must-revalidate", 5, "max-stale")
	decides(t, Check, "max-age=5, proxy-revalidate", 5, "max-stale")
	decides(t, Check, "s-maxage=5", 5, "max-stale")
	decides(t, Check, "max-age=5", 5, "max-stale, min-fresh=0")
	decides(t, Check, "s-maxage=0, max-age=9", 5, "max-stale")
}

func TestP21_1Pragma(t *testing.T) {
	for i, c := range []struct{ got, want int }{
		{of("max-age=5", 3, "pragma", "no-cache"), Check},
		{of("max-age=5", 3, "pragma", "x, No-Cache=1"), Check},
		{of("max-age=5", 3, "pragma", "x", "pragma", "no-cache"), Check},
		{of("max-age=5", 3, "pragma", "x"), Serve},
		{of("max-age=5", 3, "pragma", "no-cache, \""), Serve},
		{of("max-age=5", 3, "pragma", "no-cache", "cache-control", ""), Serve},
		{of("max-age=5", 3, "cache-control", "only-if-cached", "pragma", "no-cache"), Serve},
		{of("max-age=5", 3, "Pragma", "no-cache"), Serve},
	} {
		if c.got != c.want {
			t.Error(i, c.got)
		}
	}
	e := api.Entry{Response: api.Response{Fields: list("cache-control", "max-age=5", "pragma", "no-cache")}}
	if got := Of(e, api.Request{}, 3, 0); got != Serve {
		t.Error("the response's pragma", got)
	}
}

func TestP21_1Share(t *testing.T) {
	e := api.Entry{Response: api.Response{Status: 200, Fields: list("last-modified", "Thu, 01 Jan 1970 00:00:00 GMT")}, Asked: 1000, Came: 1000}
	for _, c := range []struct {
		now   int
		share float64
		want  int
	}{{1099, 0.1, Serve}, {1100, 0.1, Check}, {1000, 0, Check}, {1000, math.NaN(), Check}, {1999, math.Inf(1), Serve}, {2000, math.Inf(1), Check}} {
		if got := Of(e, api.Request{}, c.now, c.share); got != c.want {
			t.Error(c, got)
		}
	}
}

func TestP21_2None(t *testing.T) {
	for control, want := range map[string]int{"": Forward, "only-if-cached": Refuse, "no-cache": Forward, "x, ONLY-IF-CACHED=1": Refuse, "only-if-cached, \"": Forward} {
		if got := None(api.Request{Fields: list("cache-control", control)}); got != want {
			t.Error(control, got)
		}
	}
	if None(api.Request{}) != Forward {
		t.Error("nothing is asked")
	}
}

func TestP21_3PlainRequests(t *testing.T) {
	for age := range 20 {
		want := Serve
		if age >= 10 {
			want = Check
		}
		for _, told := range []string{"max-age=10", "s-maxage=10", "max-age=10, must-revalidate", "max-age=10, public"} {
			if got := of(told, age); got != want {
				t.Error(told, age, got)
			}
		}
		if got := of("max-age=10, no-cache", age); got != Check {
			t.Error(age, got)
		}
	}
}
