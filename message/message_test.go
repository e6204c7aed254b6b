package message

import (
	"reflect"
	"slices"
	"strings"
	"testing"

	"reservoir/api"
)

// list makes fields of names and values.
func list(s ...string) []api.Field {
	var l []api.Field
	for i := 0; i < len(s); i += 2 {
		l = append(l, api.Field{Name: s[i], Value: s[i+1]})
	}
	return l
}

// get is the head of a GET, with more fields.
func get(more ...string) []api.Field {
	return append(list(":method", "GET", ":scheme", "https", ":authority", "a", ":path", "/"), list(more...)...)
}

func isRequest(l []api.Field) bool {
	q, ok := Request(l)
	if !ok && !reflect.DeepEqual(q, api.Request{}) {
		return true
	}
	return ok
}

func isResponse(l []api.Field) bool {
	s, ok := Response(l)
	if !ok && !reflect.DeepEqual(s, api.Response{}) {
		return true
	}
	return ok
}

// everywhere checks how a field is taken in all three kinds of fields.
func everywhere(t *testing.T, want bool, name, value string) {
	t.Helper()
	if got := isRequest(get(name, value)); got != want {
		t.Errorf("request: %q %q %v", name, value, got)
	}
	if got := isResponse(list(":status", "200", name, value)); got != want {
		t.Errorf("response: %q %q %v", name, value, got)
	}
	if got := Trailers(list("a", "b", name, value)); got != want {
		t.Errorf("trailers: %q %q %v", name, value, got)
	}
}

func TestP15_1NamesAndValues(t *testing.T) {
	for _, name := range []string{"a", "x-a", "0", "!#$%&'*+-.^_|~\x60", strings.Repeat("n", 300)} {
		everywhere(t, true, name, "v")
	}
	for _, name := range []string{"", "A", "x-A", "Z", "a b", "a:", ":a", "a\x00", "é", "a\"", "(", "a,b"} {
		everywhere(t, false, name, "v")
	}
	for _, value := range []string{"", "a b", "a\tb", "\x80\xff", "\"", ","} {
		everywhere(t, true, "a", value)
	}
	for _, value := range []string{" ", " a", "a ", "\ta", "a\t", "a\nb", "a\x00", "a\rb", "\x7f"} {
		everywhere(t, false, "a", value)
	}
}

func TestP15_2Plain(t *testing.T) {
	for _, name := range []string{"connection", "proxy-connection", "keep-alive", "transfer-encoding", "upgrade"} {
		everywhere(t, false, name, "a")
		everywhere(t, false, name, "")
		everywhere(t, true, name+"x", "a")
	}
	everywhere(t, true, "te", "trailers")
	for _, value := range []string{"", "gzip", "Trailers", "trailers, gzip"} {
		everywhere(t, false, "te", value)
	}
	if isRequest(get("te", "trailers", "te", "x")) || !isRequest(get("te", "trailers", "te", "trailers")) {
		t.Error("every te counts")
	}
}

func TestP15_3Length(t *testing.T) {
	for _, c := range []struct {
		values []string
		want   int
	}{{nil, -1}, {[]string{"0"}, 0}, {[]string{"5"}, 5}, {[]string{"999999999"}, 999999999}, {[]string{"005", "5", "05"}, 5}, {[]string{"000000000"}, 0}} {
		var more []string
		for _, v := range c.values {
			more = append(more, "content-length", v)
		}
		q, ok := Request(get(more...))
		if q.Length != c.want || !ok {
			t.Error(c, q, ok)
		}
		s, ok := Response(append(list(":status", "200"), list(more...)...))
		if s.Length != c.want || !ok {
			t.Error(c, s, ok)
		}
	}
	for _, values := range [][]string{{""}, {"-1"}, {"+1"}, {"1000000000"}, {"0000000005"}, {"5", "6"}, {"5", "5", "6"}, {"5", ""}, {"5, 5"}, {"a"}, {"1a"}, {"/"}, {":"}, {"5", "x"}, {"0", "1"}} {
		var more []string
		for _, v := range values {
			more = append(more, "content-length", v)
		}
		if isRequest(get(more...)) || isResponse(append(list(":status", "200"), list(more...)...)) {
			t.Error(values)
		}
		// Trailers have no length.
		if !Trailers(list(more...)) {
			t.Error(values)
		}
	}
}

func TestP15_4Request(t *testing.T) {
	q, ok := Request(get("te", "trailers", "a", "1", "b", "2", "a", "3"))
	want := api.Request{Method: "GET", Scheme: "https", Authority: "a", Path: "/", Fields: list("te", "trailers", "a", "1", "b", "2", "a", "3"), Length: -1}
	if !reflect.DeepEqual(q, want) || !ok {
		t.Error(q, ok)
	}
	q, ok = Request(list(":path", "*", ":authority", "b:1", ":method", "OPTIONS", ":scheme", "http"))
	q.Fields = nil
	if !reflect.DeepEqual(q, api.Request{Method: "OPTIONS", Scheme: "http", Authority: "b:1", Path: "*", Length: -1}) || !ok {
		t.Error(q, ok)
	}
	// One field is missing, or twice, or a stranger; or behind the others.
	for i := range 4 {
		l := get()
		if isRequest(slices.Delete(slices.Clone(l), i, i+1)) || isRequest(slices.Insert(slices.Clone(l), i, l[i])) {
			t.Error(i)
		}
		if isRequest(append(slices.Delete(slices.Clone(l), i, i+1), list("a", "b", l[i].Name, l[i].Value)...)) {
			t.Error(i)
		}
	}
	for _, name := range []string{":status", ":protocol", ":", "::", ":Method"} {
		if isRequest(append(list(name, "200"), get()...)) {
			t.Error(name)
		}
	}
	for _, l := range [][]api.Field{nil, list("a", "b"), get("connection", "close"), get("X-a", "b"), append(list("a", "b"), get()...)} {
		if isRequest(l) {
			t.Error(l)
		}
	}
}

func TestP15_4RequestValues(t *testing.T) {
	with := func(i int, value string) bool {
		l := get()
		l[i].Value = value
		return isRequest(l)
	}
	for i, c := range []struct{ good, wrong []string }{
		{[]string{"POST", "get", "!", "OPTIONS", "CONNECTS", "connect"}, []string{"", "CONNECT", "G T", "G\x00", "(", " GET"}},
		{[]string{"http", "https"}, []string{"", "HTTP", "ftp", "https ", "httpss"}},
		{[]string{"a", "a b", "\"", "é", "a:80"}, []string{"", " a", "a ", "a\n"}},
		{[]string{"/", "//", "/a b", "/é", "/*"}, []string{"", "*", "a", " /", "/ ", "/\x00", "a/"}},
	} {
		for _, v := range c.good {
			if !with(i, v) {
				t.Errorf("%d %q", i, v)
			}
		}
		for _, v := range c.wrong {
			if with(i, v) {
				t.Errorf("%d %q", i, v)
			}
		}
	}
	star := func(method, path string) bool {
		return isRequest(list(":method", method, ":scheme", "https", ":authority", "a", ":path", path))
	}
	if !star("OPTIONS", "*") || !star("OPTIONS", "/") || star("options", "*") || star("OPTIONS", "**") || star("OPTIONS", "") {
		t.Error("the path of OPTIONS")
	}
}

func TestP15_5Response(t *testing.T) {
	s, ok := Response(list(":status", "200", "content-length", "5", "content-length", "5"))
	if !reflect.DeepEqual(s, api.Response{Status: 200, Fields: list("content-length", "5", "content-length", "5"), Length: 5}) || !ok {
		t.Error(s, ok)
	}
	for status, want := range map[string]bool{"100": true, "101": false, "102": true, "199": true, "200": true, "304": true, "599": true, "600": false, "099": false, "99": false, "1000": false, "0200": false, "": false, "20a": false, "+20": false, "2 0": false, "000": false, "999": false} {
		if got := isResponse(list(":status", status, "a", "b")); got != want {
			t.Error(status, got)
		}
	}
	for _, l := range [][]api.Field{nil, list("a", "b"), list("a", "b", ":status", "200"), list(":status", "200", ":status", "200"), list(":status", "200", ":a", "b"), list(":path", "200"), list(":status", "200", "connection", "close")} {
		if isResponse(l) {
			t.Error(l)
		}
	}
}

func TestP15_6Trailers(t *testing.T) {
	if !Trailers(nil) || !Trailers(list("a", "b", "te", "trailers", "content-length", "x")) {
		t.Error("trailers")
	}
	for _, l := range [][]api.Field{list(":status", "200"), list("a", "b", ":", ""), list("A", "b"), list("upgrade", "x"), list("te", "x")} {
		if Trailers(l) {
			t.Error(l)
		}
	}
}

func TestP15_6Hop(t *testing.T) {
	for _, c := range []struct{ l, want []api.Field }{
		{nil, nil},
		{list("a", "1", "b", "2", "a", "3"), list("a", "1", "b", "2", "a", "3")},
		{list("connection", "A, \"c\"", "a", "1", "b", "2", "c", "3", "connection", "B,", "\"c\"", "4"), list("c", "3")},
		{list("a", "1", "te", "trailers", "keep-alive", "5", "proxy-connection", "x", "transfer-encoding", "y", "upgrade", "z", "b", ""), list("a", "1", "b", "")},
		{list("connection", "a, \"", "a", "1"), list("a", "1")},
		{list("Connection", "a", "a", "1", "A", "2"), list("Connection", "a", "a", "1", "A", "2")},
		{list("connection", "X-y", "x-y", "1", "X-y", "2", "TE", "3"), list("X-y", "2", "TE", "3")},
		{list("connection", ":status", ":status", "200", "x", "1"), list("x", "1")},
	} {
		before := slices.Clone(c.l)
		got := Hop(c.l)
		if !slices.Equal(got, c.want) || !slices.Equal(before, c.l) {
			t.Error(c.l, got)
		}
		clear(got)
		if !slices.Equal(before, c.l) {
			t.Error("the result shares memory")
		}
	}
}

func TestP15_7AcceptedAgain(t *testing.T) {
	heads := [][]api.Field{get(), get("a", "b", "content-length", "7", "te", "trailers"), list(":path", "*", ":authority", "x", ":method", "OPTIONS", ":scheme", "http", "c", "")}
	for _, l := range heads {
		q, ok := Request(l)
		again := append(list(":method", q.Method, ":scheme", q.Scheme, ":authority", q.Authority, ":path", q.Path), q.Fields...)
		if p, is := Request(again); !reflect.DeepEqual(p, q) || !ok || !is {
			t.Error(q, p)
		}
		clear(q.Fields)
		if p, _ := Request(l); !ok || p.Method != q.Method || (len(p.Fields) > 0 && p.Fields[0].Name == "") {
			t.Error("the result shares memory")
		}
	}
	s, _ := Response(list(":status", "404", "content-length", "07", "b", "c"))
	if r, ok := Response(append(list(":status", "404"), s.Fields...)); !reflect.DeepEqual(r, s) || !ok {
		t.Error(r, ok)
	}
}
