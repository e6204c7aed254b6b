package control

import (
	"strings"
	"testing"

	"reservoir/api"
	"reservoir/token"
)

// of returns the directives of fields with these values.
func of(values ...string) api.Control {
	l := []api.Field{{Name: "Cache-Control", Value: "no-store"}, {Name: "pragma", Value: "no-cache"}}
	for _, v := range values {
		l = append(l, api.Field{Name: "cache-control", Value: v})
	}
	return Of(l)
}

func nothing() api.Control {
	return api.Control{MaxAge: -1, Shared: -1, Stale: -1, Fresh: -1}
}

func TestP16_1Seconds(t *testing.T) {
	for s, want := range map[string]int{"10": 10, "0": 0, "007": 7, "2147483647": api.MaxInt, "2147483646": api.MaxInt - 1, "2147483648": api.MaxInt, "99999999999999999999": api.MaxInt, strings.Repeat("9", 1000): api.MaxInt, strings.Repeat("0", 1000) + "5": 5, "1.5": -1, "": -1, "-1": -1, "+1": -1, " 1": -1, "1 ": -1, "a": -1, "99999999999999999999a": -1, "1e5": -1, "/": -1, ":": -1, "\xd9\xa3": -1} {
		if got := Seconds(s); got != want {
			t.Error(s, got)
		}
	}
}

func TestP16_2Flags(t *testing.T) {
	set := func(f func(c *api.Control)) api.Control {
		c := nothing()
		f(&c)
		return c
	}
	for name, want := range map[string]api.Control{
		"no-store":         set(func(c *api.Control) { c.NoStore = true }),
		"no-cache":         set(func(c *api.Control) { c.NoCache = true }),
		"private":          set(func(c *api.Control) { c.Private = true }),
		"public":           set(func(c *api.Control) { c.Public = true }),
		"only-if-cached":   set(func(c *api.Control) { c.Only = true }),
		"must-revalidate":  set(func(c *api.Control) { c.Must = true }),
		"proxy-revalidate": set(func(c *api.Control) { c.Must = true }),
		"no-transform":     nothing(),
		"immutable":        nothing(),
	} {
		for _, value := range []string{name, strings.ToUpper(name), name + "=1", name + `="a, b"`, "x, " + name, name + "," + name} {
			if got := of(value); got != want {
				t.Error(value, got)
			}
		}
		if got := of(name+"=", name+" x"); got != nothing() {
			t.Error(name, got)
		}
	}
}

func TestP16_2Numbers(t *testing.T) {
	for name, at := range map[string]func(c *api.Control) *int{
		"max-age":   func(c *api.Control) *int { return &c.MaxAge },
		"s-maxage":  func(c *api.Control) *int { return &c.Shared },
		"min-fresh": func(c *api.Control) *int { return &c.Fresh },
		"max-stale": func(c *api.Control) *int { return &c.Stale },
	} {
		bare := 0
		if name == "max-stale" {
			bare = api.MaxInt
		}
		for value, want := range map[string]int{"=60": 60, `="60"`: 60, "=0": 0, "=x": 0, `=""`: 0, `="-5"`: 0, "=99999999999": api.MaxInt, "": bare, "=9, max-age=8, s-maxage=8, min-fresh=8, max-stale=8": 8} {
			c := nothing()
			*at(&c) = want
			got := of(strings.ToUpper(name[:1]) + name[1:] + value)
			if strings.Contains(value, ",") {
				c = api.Control{MaxAge: 8, Shared: 8, Stale: 8, Fresh: 8}
			}
			if got != c {
				t.Error(name, value, got)
			}
		}
		for _, twice := range [][]string{{name + "=5," + name + "=7"}, {name + "=7", name + "=5"}, {name + "=5", name + "=5"}} {
			c := nothing()
			*at(&c) = 5
			if got := of(twice...); got != c {
				t.Error(twice, got)
			}
		}
		if got := of(name+"=7", name); *at(&got) != min(7, bare) {
			t.Error(name, got)
		}
	}
}

func TestP16_2Examples(t *testing.T) {
	want := nothing()
	want.Public, want.Private, want.MaxAge = true, true, 5
	if got := of(`public, max-age="60"`, `Max-Age=5, private="x"`); got != want {
		t.Error(got)
	}
	want = nothing()
	want.Stale, want.Shared = api.MaxInt, 0
	if got := of("max-stale, s-maxage=x"); got != want {
		t.Error(got)
	}
	if of(`max-age=1, "`) != nothing() || of() != nothing() || Of(nil) != nothing() || of("") != nothing() {
		t.Error("nothing is set")
	}
}

func TestP16_3NothingIsRevoked(t *testing.T) {
	parts := []string{"no-store", "max-age=5", "max-age", "public, s-maxage=3", "max-stale", "max-stale=4", "min-fresh=9, private", "x", `no-cache="a,b"`, "must-revalidate, min-fresh=2", "only-if-cached"}
	for _, a := range parts {
		for _, b := range parts {
			if _, ok := token.Split(a); !ok {
				t.Fatal(a)
			}
			less, more := of(a), of(a, b)
			if less.NoStore && !more.NoStore || less.NoCache && !more.NoCache || less.Private && !more.Private || less.Public && !more.Public || less.Must && !more.Must || less.Only && !more.Only {
				t.Error(a, b)
			}
			for _, n := range [][2]int{{less.MaxAge, more.MaxAge}, {less.Shared, more.Shared}, {less.Stale, more.Stale}, {less.Fresh, more.Fresh}} {
				if n[0] >= 0 && (n[1] < 0 || n[1] > n[0]) {
					t.Error(a, b, n)
				}
			}
			if of(b, a) != more {
				t.Error(a, b)
			}
		}
	}
}
