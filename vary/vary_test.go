package vary

import (
	"testing"

	"reservoir/api"
)

// list makes fields of names and values.
func list(s ...string) []api.Field {
	var l []api.Field
	for i := 0; i < len(s); i += 2 {
		l = append(l, api.Field{Name: s[i], Value: s[i+1]})
	}
	return l
}

func request(s ...string) api.Request { return api.Request{Fields: list(s...)} }

func TestP20_1Key(t *testing.T) {
	q := api.Request{Method: "GET", Scheme: "https", Authority: "a:1", Path: "/x?y", Fields: list("a", "b")}
	if Key(q) != "https://a:1/x?y" || Key(api.Request{}) != "://" {
		t.Error(Key(q))
	}
}

func TestP20_2Match(t *testing.T) {
	for i, c := range []struct {
		vary, old, now []api.Field
		want           bool
	}{
		{list("vary", "Accept"), list("accept", "b"), list("accept", "b"), true},
		{list("vary", "Accept"), list("accept", "b"), list("accept", "c"), false},
		{list("vary", "Accept"), list("accept", "b"), nil, false},
		{list("vary", "Accept"), nil, list("accept", "b"), false},
		{list("vary", "Accept"), nil, list("accept", ""), false},
		{list("vary", "Accept"), list("accept", ""), nil, false},
		{list("vary", "Accept"), nil, nil, true},
		{list("vary", "accept"), nil, list("Accept", "b"), true},
		{list("vary", "*"), nil, nil, false},
		{list("vary", "accept, *"), nil, nil, false},
		{list("vary", "a b"), nil, nil, false},
		{list("vary", `"`), nil, nil, false},
		{list("vary", "a,b"), list("a", "1", "b", "2", "c", "3"), list("b", "2", "c", "4", "a", "1"), true},
		{list("vary", "a,b"), list("a", "1", "b", "2"), list("a", "1", "b", "3"), false},
		{list("vary", "a", "vary", "b"), list("a", "1", "b", "2"), list("a", "2", "b", "2"), false},
		{list("vary", "a"), list("a", "1", "a", "2"), list("a", "1, 2"), true},
		{list("vary", "a"), list("a", "1", "a", "2"), list("a", "2", "a", "1"), false},
		{list("vary", "a"), list("a", "1", "a", "2"), list("a", "1,2"), false},
		{list("vary", "a"), list("a", " 1\t"), list("a", "1"), true},
		{list("vary", "a"), list("a", "1", "a", ""), list("a", "1,"), true},
		{list("vary", "a"), list("a", "b"), list("a", "B"), false},
		{nil, list("a", "1"), list("a", "2"), true},
		{list("vary", ""), list("a", "1"), list("a", "2"), true},
		{list("Vary", "a"), list("a", "1"), list("a", "2"), true},
	} {
		e := api.Entry{Request: api.Request{Fields: c.old}, Response: api.Response{Fields: c.vary}}
		if got := Match(e, api.Request{Fields: c.now}); got != c.want {
			t.Error(i, got)
		}
	}
	e := api.Entry{Request: api.Request{Method: "GET", Path: "/a"}}
	if !Match(e, api.Request{Method: "POST", Path: "/b"}) {
		t.Error("keys are not compared")
	}
}

func TestP20_3OwnRequest(t *testing.T) {
	requests := []api.Request{request(), request("a", "1"), request("a", "", "b", "2"), request("accept", " x ", "a", "1", "a", "2")}
	for _, vary := range []string{"", "a", "A, b", "accept", "c", "*", "a,*"} {
		star := vary == "*" || vary == "a,*"
		for _, q := range requests {
			e := api.Entry{Request: q, Response: api.Response{Fields: list("vary", vary)}}
			if Match(e, q) == star {
				t.Error(vary, q)
			}
			e.Response.Fields = nil
			for _, r := range requests {
				if !Match(e, r) {
					t.Error("without vary", q, r)
				}
			}
		}
	}
}
