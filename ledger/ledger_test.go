package ledger

import (
	"testing"

	"reservoir/api"
)

// talk makes one of names and values of fields.
func talk(s ...string) api.Talk {
	var t api.Talk
	for i := 0; i < len(s); i += 2 {
		t.Fields = append(t.Fields, api.Field{Name: s[i], Value: s[i+1]})
	}
	return t
}

func TestP29_1Value(t *testing.T) {
	x := talk("a", "1", "b", "", "a", "2", "", "3")
	for name, want := range map[string]string{"a": "1", "b": "", "": "3"} {
		if got, ok := Value(x, name); got != want || !ok {
			t.Error(name, got, ok)
		}
	}
	for _, name := range []string{"A", "c", "ab"} {
		if got, ok := Value(x, name); got != "" || ok {
			t.Error(name, got, ok)
		}
	}
	if got, ok := Value(api.Talk{}, ""); got != "" || ok {
		t.Error(got, ok)
	}
}

func TestP29_1Status(t *testing.T) {
	for s, want := range map[string]int{"200": 200, "000": 0, "007": 7, "999": 999, "2000": 0, "20": 0, "": 0, "20a": 0, "-20": 0, "+20": 0, " 20": 0, "2 0": 0, "/00": 0, ":00": 0} {
		if got := Status(talk(":status", s)); got != want {
			t.Error(s, got)
		}
	}
	if Status(api.Talk{}) != 0 || Status(talk(":status", "200", ":status", "300")) != 200 || Status(talk(":status", "x", ":status", "300")) != 0 || Status(talk("status", "200")) != 0 {
		t.Error("the first one counts")
	}
}

func TestP29_2Own(t *testing.T) {
	for i, c := range []struct {
		t    api.Talk
		want bool
	}{
		{talk(":status", "502", "content-length", "0"), true},
		{talk(":status", "503", "content-length", "0"), true},
		{talk("content-length", "0", ":status", "504"), true},
		{talk(":status", "500", "content-length", "0"), false},
		{talk(":status", "501", "content-length", "0"), false},
		{talk(":status", "505", "content-length", "0"), false},
		{talk(":status", "200", "content-length", "0"), false},
		{talk(":status", "502", "content-length", "0", "via", "2 reservoir"), false},
		{talk(":status", "502"), false},
		{talk(":status", "502", "content-length", "00"), false},
		{talk(":status", "502", "content-length", "5"), false},
		{talk(":status", "502", "content-length", ""), false},
		{talk(":status", "502", ":status", "502"), false},
		{api.Talk{}, false},
	} {
		if got := Own(c.t); got != c.want {
			t.Error(i, got)
		}
		c.t.Body = "x"
		if Own(c.t) {
			t.Error("with a body", i)
		}
	}
	// Whether it is whole does not matter.
	x := talk(":status", "502", "content-length", "0")
	x.Reset = true
	if !Own(x) {
		t.Error("reset")
	}
}

func TestP29_2Stored(t *testing.T) {
	for i, c := range []struct {
		t    api.Talk
		want bool
	}{
		{talk("age", "1", "via", "2 reservoir"), true},
		{talk("via", "2 reservoir", "via", "x", "age", ""), true},
		{talk("via", "x", "via", "2 reservoir", "age", ""), false},
		{talk("age", "1"), false},
		{talk("via", "2 reservoir"), false},
		{talk("age", "1", "via", "2 Reservoir"), false},
		{talk("age", "1", "via", ""), false},
		{talk("Age", "1", "via", "2 reservoir"), false},
		{talk(":status", "502", "content-length", "0", "age", "1", "via", "2 reservoir"), true},
		{api.Talk{}, false},
	} {
		if got := Stored(c.t); got != c.want {
			t.Error(i, got)
		}
	}
}

func TestP29_3And4Sum(t *testing.T) {
	ended := func(t api.Talk) api.Talk { t.End = true; return t }
	reset := func(t api.Talk) api.Talk { t.Reset = true; return t }
	own, stored, passed := talk(":status", "502", "content-length", "0"), talk("age", "1", "via", "2 reservoir"), talk(":status", "200", "via", "2 reservoir")
	for i, c := range []struct {
		l    []api.Talk
		want Tally
	}{
		{nil, Tally{}},
		{[]api.Talk{ended(own), ended(stored), {Reset: true}, {}}, Tally{Whole: 2, Reset: 1, Own: 1, Stored: 1, Open: 1}},
		{[]api.Talk{own, stored, passed, {}}, Tally{Open: 4}},
		{[]api.Talk{reset(own), ended(reset(stored)), reset(ended(passed))}, Tally{Reset: 3}},
		{[]api.Talk{ended(passed), ended(api.Talk{}), ended(own), ended(own), ended(stored), ended(passed)}, Tally{Whole: 6, Own: 2, Stored: 1, Passed: 3}},
	} {
		got := Sum(c.l)
		if got != c.want {
			t.Error(i, got)
		}
		if got.Whole != got.Own+got.Stored+got.Passed || got.Whole+got.Reset+got.Open != len(c.l) {
			t.Error(i, got)
		}
	}
}
