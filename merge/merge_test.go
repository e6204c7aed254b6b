package merge

import (
	"math"
	"reflect"
	"slices"
	"testing"

	"reservoir/api"
)

// list makes fields of names and values.
func list(s ...string) []api.Field {
	var l []api.Field
	for i := 0; i < len(s); i += 2 {
		l = append(l, api.Field{Name: s[i], Value: s[i+1]})
	}
	return l
}

func entry(s ...string) api.Entry {
	return api.Entry{
		Request:  api.Request{Method: "GET", Scheme: "https", Authority: "a", Path: "/", Fields: list("q", "1"), Length: -1},
		Response: api.Response{Status: 200, Fields: list(s...), Length: 7},
		Body:     "content", Asked: 10, Came: 12,
	}
}

func request(s ...string) api.Request {
	return api.Request{Method: "GET", Scheme: "https", Authority: "a", Path: "/", Fields: list(s...), Length: -1}
}

func TestP22_1Ask(t *testing.T) {
	all := []string{"if-none-match", `"y"`, "a", "b", "if-modified-since", "x", "if-match", "x", "if-unmodified-since", "x", "if-range", "x", "range", "x", "c", "d", "range", "z", "If-Match", "e"}
	for i, c := range []struct {
		e    api.Entry
		q    api.Request
		want []api.Field
		ok   bool
	}{
		{entry("etag", `"x"`), request("if-none-match", `"y"`, "a", "b"), list("a", "b", "if-none-match", `"x"`), true},
		{entry("etag", `"x"`, "last-modified", "m"), request(all...), list("a", "b", "c", "d", "If-Match", "e", "if-none-match", `"x"`, "if-modified-since", "m"), true},
		{entry("last-modified", "m"), request(all...), list("a", "b", "c", "d", "If-Match", "e", "if-modified-since", "m"), true},
		{entry("last-modified", "m", "etag", ""), request(), list("if-none-match", "", "if-modified-since", "m"), true},
		{entry(), request(all...), list(all...), false},
		{entry("etag", "1", "etag", "1"), request(all...), list(all...), false},
		{entry("etag", "1", "etag", "1", "last-modified", "m"), request("a", "b"), list("a", "b", "if-modified-since", "m"), true},
		{entry("etag", "1", "last-modified", "m", "last-modified", "m"), request("a", "b"), list("a", "b", "if-none-match", "1"), true},
		{entry("ETag", "1"), request(), nil, false},
	} {
		before := slices.Clone(c.q.Fields)
		got, ok := Ask(c.e, c.q)
		want := c.q
		want.Fields = c.want
		if ok != c.ok || !slices.Equal(got.Fields, c.want) {
			t.Error(i, got, ok)
		}
		got.Fields, want.Fields = nil, nil
		if !reflect.DeepEqual(got, want) {
			t.Error(i, got)
		}
		again, _ := Ask(c.e, c.q)
		clear(again.Fields)
		if !slices.Equal(c.q.Fields, before) {
			t.Error("the request shares memory", i)
		}
	}
}

func TestP22_2Renew(t *testing.T) {
	for i, c := range []struct {
		e    api.Entry
		s    []api.Field
		want []api.Field
	}{
		{entry("date", "1", "age", "5", "content-type", "t"), list("date", "2", "content-type", "u"), list("content-type", "t", "date", "2")},
		{entry("a", "1", "b", "2", "a", "3"), list("a", "4", "c", "5", "a", "6"), list("b", "2", "a", "4", "c", "5", "a", "6")},
		{entry("content-length", "1", "content-encoding", "2", "content-type", "3", "content-range", "4"), list("content-range", "5", "content-type", "6", "content-encoding", "7", "content-length", "8"), list("content-length", "1", "content-encoding", "2", "content-type", "3", "content-range", "4")},
		{entry("a", "1"), list("content-length", "0", "content-type", "x"), list("a", "1")},
		{entry("age", "1", "b", "2", "age", "3"), nil, list("b", "2")},
		{entry("age", "1", "b", "2"), list("age", "7"), list("b", "2", "age", "7")},
		{entry("b", "2"), list("age", "7", "age", "8"), list("b", "2", "age", "7", "age", "8")},
		{entry("Age", "1"), list("date", "2"), list("Age", "1", "date", "2")},
		{entry("content-language", "1"), list("content-language", "2"), list("content-language", "2")},
		{entry(), nil, nil},
	} {
		s := api.Response{Status: 304, Fields: c.s, Length: 99}
		want := c.e
		want.Response.Fields, want.Asked, want.Came = c.want, 20, 21
		got := Renew(c.e, s, 20, 21)
		if len(got.Response.Fields) == 0 && len(c.want) == 0 {
			got.Response.Fields = c.want
		}
		if !reflect.DeepEqual(got, want) {
			t.Error(i, got)
		}
		old, new := slices.Clone(c.e.Response.Fields), slices.Clone(c.s)
		clear(got.Response.Fields)
		clear(got.Request.Fields)
		if !slices.Equal(old, c.e.Response.Fields) || !slices.Equal(new, c.s) || c.e.Request.Fields[0].Name != "q" {
			t.Error("memory is shared", i)
		}
	}
	e := Renew(entry(), api.Response{}, math.MinInt64, math.MaxInt64)
	if e.Asked != math.MinInt64 || e.Came != math.MaxInt64 {
		t.Error("times are as given", e)
	}
}

func TestP22_3Clears(t *testing.T) {
	for _, method := range []string{"GET", "HEAD", "OPTIONS", "TRACE", "POST", "PUT", "DELETE", "PATCH", "get", ""} {
		safe := method == "GET" || method == "HEAD" || method == "OPTIONS" || method == "TRACE"
		for _, status := range []int{-1, 0, 100, 199, 200, 201, 304, 399, 400, 404, 500, 1 << 40} {
			want := !safe && status >= 200 && status <= 399
			if got := Clears(api.Request{Method: method}, api.Response{Status: status}); got != want {
				t.Error(method, status, got)
			}
		}
	}
}

func TestP22_4SameByTag(t *testing.T) {
	for i, c := range []struct {
		e    api.Entry
		q    api.Request
		want bool
	}{
		{entry("etag", `"x"`), request("if-none-match", `W/"x", "y"`), true},
		{entry("etag", `W/"x"`), request("if-none-match", `"x"`), true},
		{entry("etag", `W/"x"`), request("if-none-match", `W/"x"`), true},
		{entry("etag", `"x"`), request("if-none-match", `"y"`, "if-none-match", `"x"`), true},
		{entry("etag", `"x"`), request("if-none-match", `"y"`), false},
		{entry("etag", `"x"`), request("if-none-match", `x`), false},
		{entry("etag", `"x"`), request("if-none-match", `w/"x"`), false},
		{entry("etag", `"x"`), request("if-none-match", `W/W/"x"`), false},
		{entry("etag", `"x"`), request("if-none-match", ""), false},
		{entry("etag", ""), request("if-none-match", "W/"), true},
		{entry("etag", "W/"), request("if-none-match", "W"), false},
		{entry("etag", `"x"`), request("if-none-match", "*"), true},
		{entry(), request("if-none-match", `"y", *`), true},
		{entry(), request("if-none-match", `"y"`), false},
		{entry("etag", `"x"`, "etag", `"x"`), request("if-none-match", `"x"`), false},
		{entry("etag", `"x"`), request("if-none-match", `"x", "`), false},
		{entry("etag", `"x,y"`), request("if-none-match", `"z", "x,y"`), true},
		{entry(), request(), false},
		{entry("etag", `"x"`), request(), false},
		{entry("etag", `"x"`), request("etag", `"x"`), false},
	} {
		if got := Same(c.e, c.q); got != c.want {
			t.Error(i, got)
		}
	}
}

func TestP22_4SameByChange(t *testing.T) {
	for i, c := range []struct {
		e    api.Entry
		q    api.Request
		want bool
	}{
		{entry("last-modified", "m"), request("if-modified-since", "m"), true},
		{entry("last-modified", "m"), request("if-modified-since", "n"), false},
		{entry("last-modified", "m"), request("if-modified-since", "m", "if-modified-since", "m"), false},
		{entry("last-modified", "m", "last-modified", "m"), request("if-modified-since", "m"), false},
		{entry(), request("if-modified-since", ""), false},
		{entry("last-modified", ""), request(), false},
		{entry("last-modified", ""), request("if-modified-since", ""), true},
		{entry("last-modified", "m", "etag", `"x"`), request("if-modified-since", "m", "if-none-match", `"y"`), false},
		{entry("last-modified", "m", "etag", `"x"`), request("if-modified-since", "n", "if-none-match", `"x"`), true},
		{entry("last-modified", "m"), request("if-modified-since", "m", "if-none-match", ""), false},
	} {
		if got := Same(c.e, c.q); got != c.want {
			t.Error(i, got)
		}
	}
}

func TestP22_5RenewTwice(t *testing.T) {
	entries := []api.Entry{entry(), entry("a", "1", "age", "2", "content-type", "t", "b", "3", "age", "4"), entry("etag", "x", "date", "1")}
	for _, e := range entries {
		kept := Renew(e, api.Response{}, 1, 2).Response.Fields
		var want []api.Field
		for _, f := range e.Response.Fields {
			if f.Name != "age" {
				want = append(want, f)
			}
		}
		if !slices.Equal(kept, want) {
			t.Error(kept, want)
		}
		for _, s := range []api.Response{{}, {Fields: list("age", "9", "b", "7")}, {Fields: list("content-type", "u", "a", "5", "a", "6")}} {
			once := Renew(e, s, 3, 4)
			if twice := Renew(once, s, 3, 4); !reflect.DeepEqual(once, twice) {
				t.Error(once, twice)
			}
		}
	}
}
