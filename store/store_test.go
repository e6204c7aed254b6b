package store

import (
	"math"
	"reflect"
	"slices"
	"strconv"
	"strings"
	"testing"

	"reservoir/api"
	"reservoir/vary"
)

// list makes fields of names and values.
func list(s ...string) []api.Field {
	var l []api.Field
	for i := 0; i < len(s); i += 2 {
		l = append(l, api.Field{Name: s[i], Value: s[i+1]})
	}
	return l
}

func request(authority string, s ...string) api.Request {
	return api.Request{Method: "GET", Scheme: "http", Authority: authority, Path: "/", Fields: list(s...), Length: -1}
}

// plain is an entry whose body has n bytes; its cost is 109 and n.
func plain(authority string, n int) api.Entry {
	return api.Entry{Request: request(authority), Response: api.Response{Status: 200}, Body: strings.Repeat("x", n)}
}

// varied is an entry that varies by accept.
func varied(authority, accept, body string) api.Entry {
	return api.Entry{Request: request(authority, "accept", accept), Response: api.Response{Status: 200, Fields: list("vary", "accept")}, Body: body}
}

func made(t *testing.T, budget int, l ...api.Entry) *Store {
	t.Helper()
	s, no := New(budget)
	if no != api.OK {
		t.Fatal(budget, no)
	}
	for _, e := range l {
		if !s.Put(e) {
			t.Fatal("not put", e)
		}
	}
	return s
}

// holds checks the keys of s by their authorities, and what follows from them.
func holds(t *testing.T, s *Store, size int, authorities ...string) {
	t.Helper()
	var want []string
	for _, a := range authorities {
		want = append(want, "http://"+a+"/")
	}
	if got := s.Keys(); !slices.Equal(got, want) || s.Len() != len(want) || s.Size() != size {
		t.Error(got, s.Len(), s.Size())
	}
}

func TestP23_1Cost(t *testing.T) {
	if got := Cost(plain("a", 10)); got != 119 {
		t.Error(got)
	}
	if got := Cost(api.Entry{}); got != 103 {
		t.Error(got)
	}
	e := api.Entry{Request: api.Request{Method: "GETGET", Scheme: "https", Authority: "abc", Path: "/x", Fields: list("a", "bb", "", "ccc")}, Response: api.Response{Status: 200, Fields: list("dddd", "eeeee")}, Body: "1234567", Asked: 5}
	if got := Cost(e); got != 100+13+6+9+7 {
		t.Error(got)
	}
}

func TestP23_1New(t *testing.T) {
	for _, budget := range []int{0, 1, api.MaxBudget} {
		holds(t, made(t, budget), 0)
	}
	for _, budget := range []int{-1, api.MaxBudget + 1, math.MinInt64, math.MaxInt64} {
		if s, no := New(budget); s != nil || no != api.ErrArg {
			t.Error(budget, no)
		}
	}
}

func TestP23_2Examples(t *testing.T) {
	s := made(t, 250, plain("a", 10), plain("b", 10))
	holds(t, s, 238, "b", "a")
	if _, ok := s.Get(request("a")); !ok {
		t.Error("a")
	}
	holds(t, s, 238, "a", "b")
	if !s.Put(plain("c", 40)) {
		t.Error("c")
	}
	holds(t, s, 149, "c")
	if s = made(t, 250); s.Put(plain("c", 200)) || s.Len() != 0 {
		t.Error("larger than the budget")
	}
}

func TestP23_2Put(t *testing.T) {
	// Just so much goes as must.
	s := made(t, 327, plain("a", 0), plain("b", 0), plain("c", 0))
	holds(t, s, 327, "c", "b", "a")
	s.Put(plain("d", 1))
	holds(t, s, 219, "d", "c")
	s.Put(plain("e", 108))
	holds(t, s, 327, "e", "d")
	s.Put(plain("f", 218))
	holds(t, s, 327, "f")
	// What matches goes first, even for an entry that is too large.
	s = made(t, 327, plain("a", 0), plain("b", 0), plain("c", 0))
	s.Put(plain("b", 0))
	holds(t, s, 327, "b", "c", "a")
	if s.Put(plain("c", 219)) {
		t.Error("too large")
	}
	holds(t, s, 218, "b", "a")
	s.Put(plain("b", 100))
	holds(t, s, 318, "b", "a")
}

func TestP23_2PutReplacesWhatMatches(t *testing.T) {
	s := made(t, 10000, varied("a", "x", "1"), varied("a", "y", "2"), plain("b", 0))
	if s.Len() != 3 {
		t.Error(s.Len())
	}
	s.Put(varied("a", "x", "3"))
	if e, ok := s.Peek(request("a", "accept", "x")); e.Body != "3" || !ok || s.Len() != 3 {
		t.Error(e, ok)
	}
	// The others of the key are still there, and go on being found.
	for range 2 {
		for accept, body := range map[string]string{"x": "3", "y": "2"} {
			if e, ok := s.Get(request("a", "accept", accept)); e.Body != body || !ok {
				t.Error(accept, e, ok)
			}
		}
	}
	s.Put(varied("a", "y", "6"))
	if n := s.Remove("http://a/"); n != 2 || s.Len() != 1 {
		t.Error(n)
	}
	// An entry without vary matches both; but it goes as one of them alone.
	s = made(t, 10000, varied("a", "x", "1"), varied("a", "y", "2"), varied("a", "", "4"))
	e := plain("a", 0)
	e.Request.Fields = list("accept", "y")
	s.Put(e)
	holds(t, s, s.Size(), "a", "a", "a")
	if e, _ := s.Peek(request("a", "accept", "y")); e.Body != "" {
		t.Error(e)
	}
	s.Put(varied("a", "z", "5"))
	holds(t, s, s.Size(), "a", "a", "a")
	if e, ok := s.Peek(request("a", "accept", "q")); ok {
		t.Error(e)
	}
	// The method does not count, nor entries of other keys.
	p := plain("b", 0)
	p.Request.Method = "POST"
	s.Put(plain("b", 0))
	s.Put(p)
	if s.Len() != 4 {
		t.Error(s.Len())
	}
	// A star matches nothing, not even itself.
	star := plain("c", 0)
	star.Response.Fields = list("vary", "*")
	if !s.Put(star) || !s.Put(star) || s.Len() != 6 {
		t.Error(s.Len())
	}
	if e, ok := s.Get(request("c")); ok || e.Body != "" || e.Response.Status != 0 {
		t.Error(e)
	}
}

func TestP23_3PeekAndGet(t *testing.T) {
	s := made(t, 10000, varied("a", "x", "1"), varied("a", "y", "2"), plain("b", 3))
	for accept, body := range map[string]string{"x": "1", "y": "2"} {
		if e, ok := s.Peek(request("a", "accept", accept)); e.Body != body || !ok {
			t.Error(accept, e, ok)
		}
	}
	holds(t, s, s.Size(), "b", "a", "a")
	for _, q := range []api.Request{request("a"), request("a", "accept", "z"), request("c")} {
		if e, ok := s.Peek(q); ok || !reflect.DeepEqual(e, api.Entry{}) {
			t.Error(q, e)
		}
		if e, ok := s.Get(q); ok || !reflect.DeepEqual(e, api.Entry{}) {
			t.Error(q, e)
		}
	}
	holds(t, s, s.Size(), "b", "a", "a")
	want := varied("a", "x", "1")
	if e, ok := s.Get(request("a", "accept", "x")); !ok || !reflect.DeepEqual(e, want) {
		t.Error(e, ok)
	}
	holds(t, s, s.Size(), "a", "b", "a")
}

func TestP23_3MostRecentlyTouched(t *testing.T) {
	// Two entries that both match one request.
	x := varied("a", "x", "1")
	y := plain("a", 0)
	y.Request.Fields, y.Response.Fields, y.Body = list("b", "1"), list("vary", "b"), "2"
	s := made(t, 10000, x, y)
	both := request("a", "accept", "x", "b", "1")
	if e, _ := s.Peek(both); e.Body != "2" {
		t.Error(e)
	}
	s.Get(request("a", "accept", "x", "b", "2"))
	if e, _ := s.Peek(both); e.Body != "1" {
		t.Error(e)
	}
	if e, _ := s.Get(both); e.Body != "1" {
		t.Error(e)
	}
	// Peek does not touch.
	s.Peek(request("a", "b", "1"))
	if e, _ := s.Get(both); e.Body != "1" {
		t.Error(e)
	}
}

func TestP23_4Remove(t *testing.T) {
	s := made(t, 10000, varied("a", "x", "1"), plain("b", 0), varied("a", "y", "2"), plain("c", 0))
	if n := s.Remove("http://a/"); n != 2 {
		t.Error(n)
	}
	holds(t, s, 218, "c", "b")
	for _, key := range []string{"http://a/", "", "b", "http://b"} {
		if n := s.Remove(key); n != 0 {
			t.Error(key, n)
		}
	}
	if n := s.Remove("http://c/"); n != 1 {
		t.Error(n)
	}
	holds(t, s, 109, "b")
}

func TestP23_5WithinTheBudget(t *testing.T) {
	s := made(t, 1000)
	for i := range 2000 {
		a := strconv.Itoa(i * i % 23)
		e := varied(a, strconv.Itoa(i%3), strings.Repeat("b", i*37%950))
		if i%5 == 0 {
			e.Response.Fields = nil
		}
		put := s.Put(e)
		if found, ok := s.Peek(e.Request); put != (Cost(e) <= 1000) || put && (!ok || !reflect.DeepEqual(found, e)) {
			t.Fatal(i, put, found)
		}
		if i%7 == 0 {
			s.Get(request(strconv.Itoa(i%23), "accept", strconv.Itoa(i%3)))
		}
		if i%31 == 0 {
			s.Remove("http://" + strconv.Itoa(i%23) + "/")
		}
		if s.Size() > 1000 || s.Len() != len(s.Keys()) || s.Len()*109 > s.Size() || (s.Len() == 0) != (s.Size() == 0) {
			t.Fatal(i, s.Size(), s.Len())
		}
		for _, k := range s.Keys() {
			if !strings.HasPrefix(k, "http://") {
				t.Fatal(k)
			}
		}
	}
}

func TestP23EntriesAreCopies(t *testing.T) {
	e := varied("a", "x", "1")
	s := made(t, 1000, e)
	clear(e.Request.Fields)
	clear(e.Response.Fields)
	want := varied("a", "x", "1")
	for range 2 {
		for _, f := range []func(api.Request) (api.Entry, bool){s.Get, s.Peek} {
			got, ok := f(want.Request)
			if !ok || !reflect.DeepEqual(got, want) || vary.Key(got.Request) != "http://a/" {
				t.Fatal(got, ok)
			}
			clear(got.Request.Fields)
			clear(got.Response.Fields)
		}
	}
}
