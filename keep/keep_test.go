package keep

import (
	"math"
	"slices"
	"testing"

	"reservoir/api"
)

// list makes fields of names and values.
func list(s ...string) []api.Field {
	var l []api.Field
	for i := 0; i < len(s); i += 2 {
		l = append(l, api.Field{Name: s[i], Value: s[i+1]})
	}
	return l
}

func get(s ...string) api.Request { return api.Request{Method: "GET", Fields: list(s...)} }

func answer(status int, s ...string) api.Response {
	return api.Response{Status: status, Fields: list(s...)}
}

func TestP18_1Plain(t *testing.T) {
	plain := []int{200, 203, 204, 300, 301, 308, 404, 405, 410, 414, 501}
	for status := -10; status < 1100; status++ {
		if Plain(status) != slices.Contains(plain, status) {
			t.Error(status)
		}
	}
	if Plain(math.MinInt64) || Plain(math.MaxInt64) {
		t.Error("statuses")
	}
}

func TestP18_2Stars(t *testing.T) {
	for i, c := range []struct {
		l    []api.Field
		want []string
	}{
		{nil, nil}, {list("vary", ""), nil}, {list("vary", " , ,"), nil}, {list("Vary", "*", "x", "*"), nil},
		{list("vary", "Accept, ACCEPT-encoding"), []string{"accept", "accept-encoding"}},
		{list("vary", "b", "x", "c", "vary", "A,b"), []string{"b", "a", "b"}},
		{list("vary", "**"), []string{"**"}},
	} {
		if got, star := Stars(c.l); !slices.Equal(got, c.want) || star {
			t.Error(i, got, star)
		}
	}
	for i, l := range [][]api.Field{list("vary", "*"), list("vary", "a, *"), list("vary", "a", "vary", "*"), list("vary", "a b"), list("vary", `"a"`), list("vary", `a, "`), list("vary", "a=b"), list("vary", "a", "vary", "é")} {
		if got, star := Stars(l); got != nil || !star {
			t.Error(i, got, star)
		}
	}
}

func TestP18_3May(t *testing.T) {
	for i, c := range []struct {
		q    api.Request
		s    api.Response
		want bool
	}{
		{get(), answer(200), true},
		{api.Request{Method: "POST"}, answer(200), false},
		{api.Request{Method: "HEAD"}, answer(200), false},
		{api.Request{Method: "get"}, answer(200), false},
		{api.Request{}, answer(200, "cache-control", "public"), false},
		{get(), answer(302), false},
		{get(), answer(302, "cache-control", "max-age=5"), true},
		{get(), answer(302, "cache-control", "max-age=0"), true},
		{get(), answer(302, "cache-control", "max-age"), true},
		{get(), answer(302, "cache-control", "s-maxage=5"), true},
		{get(), answer(302, "cache-control", "s-maxage=0"), true},
		{get(), answer(302, "cache-control", "public"), true},
		{get(), answer(302, "expires", "x"), true},
		{get(), answer(302, "cache-control", "must-revalidate"), false},
		{get(), answer(302, "cache-control", "max-stale=5, min-fresh=5"), false},
		{get(), answer(599, "cache-control", "public"), true},
		{get(), answer(404), true},
		{get(), answer(206, "cache-control", "public"), false},
		{get(), answer(304, "cache-control", "public"), false},
		{get(), answer(199, "cache-control", "public"), false},
		{get(), answer(200, "cache-control", "no-store"), false},
		{get(), answer(200, "cache-control", "private"), false},
		{get(), answer(200, "cache-control", "no-cache"), true},
		{get("cache-control", "no-store"), answer(200), false},
		{get("cache-control", "private"), answer(200), true},
		{get("cache-control", "public"), answer(302), false},
		{get("cache-control", "no-cache, only-if-cached"), answer(200), true},
		{get(), answer(200, "vary", "*"), false},
		{get(), answer(200, "vary", "a"), true},
		{get(), answer(200, "vary", `"`), false},
		{get("vary", "*"), answer(200), true},
		{get("expires", "x"), answer(302), false},
	} {
		if got := May(c.q, c.s); got != c.want {
			t.Error(i, got)
		}
	}
}

func TestP18_3Authorization(t *testing.T) {
	q := get("a", "b", "authorization", "")
	for control, want := range map[string]bool{"": false, "max-age=5": false, "public": true, "must-revalidate": true, "proxy-revalidate": true, "s-maxage=0": true, "s-maxage=9": true, "private, public": false, "no-cache": false} {
		if got := May(q, answer(200, "cache-control", control)); got != want {
			t.Error(control, got)
		}
	}
	if May(q, answer(302, "cache-control", "must-revalidate")) || May(q, answer(200, "expires", "x")) || May(q, answer(200, "authorization", "x")) {
		t.Error("authorization")
	}
}

func TestP18_4NothingElseHelps(t *testing.T) {
	more := []string{"cache-control", "public, s-maxage=9, max-age=9, must-revalidate", "expires", "x"}
	for _, s := range [][]string{{"cache-control", "no-store"}, {"cache-control", "private=x"}, {"vary", "*"}, {"vary", "a,b c"}} {
		for _, l := range [][]string{append(slices.Clone(s), more...), append(slices.Clone(more), s...)} {
			if May(get(), answer(200, l...)) {
				t.Error(l)
			}
		}
	}
	if May(get("cache-control", "no-store"), answer(200, more...)) || !May(get(), answer(200, more...)) {
		t.Error("the request's no-store")
	}
}
