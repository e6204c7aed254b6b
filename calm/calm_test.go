package calm

import (
	"math"
	"reflect"
	"slices"
	"strconv"
	"strings"
	"testing"

	"reservoir/api"
	"reservoir/peer"
	"reservoir/script"
)

func config() api.Cache {
	return api.Cache{Budget: 100000, Share: 0.1, Conn: api.Config{Streams: 20, Window: 65535, List: 65536}, Trans: 30, Ups: 2}
}

func made(t *testing.T, cfg api.Cache) *script.World {
	t.Helper()
	w, no := script.New(cfg)
	if no != api.OK {
		t.Fatal(no)
	}
	return w
}

func fields(s ...string) []api.Field {
	var l []api.Field
	for i := 0; i < len(s); i += 2 {
		l = append(l, api.Field{Name: s[i], Value: s[i+1]})
	}
	return l
}

func rows(s ...string) []api.Row {
	var l []api.Row
	for _, f := range fields(s...) {
		l = append(l, api.Row{Field: f, How: 1})
	}
	return l
}

func request(method, path string, more ...string) []api.Row {
	return append(rows(":method", method, ":scheme", "https", ":authority", "a", ":path", path), rows(more...)...)
}

func ask(n int, path string, more ...string) api.Step {
	return api.Step{Kind: api.WAsk, N: n, Rows: request("GET", path, more...), End: true}
}

func TestP28_1Reply(t *testing.T) {
	rule := api.Rule{Status: 200, Tag: `"x"`, Body: "hi"}
	full := api.Rule{Status: 203, Control: "max-age=5", Tag: `"x"`, Body: "hi", Extra: fields("b", "1", ":status", "7", "b", "2")}
	for i, c := range []struct {
		r    api.Rule
		t    []api.Field
		want []api.Row
		body string
	}{
		{rule, fields("if-none-match", `"x"`), rows(":status", "304", "etag", `"x"`), ""},
		{rule, fields(":method", "HEAD"), rows(":status", "200", "etag", `"x"`), ""},
		{rule, fields("if-none-match", `"y"`, "if-none-match", `"x"`), rows(":status", "200", "etag", `"x"`), "hi"},
		{rule, fields("if-none-match", `"x", "y"`), rows(":status", "200", "etag", `"x"`), "hi"},
		{rule, fields(":method", "GET", ":method", "HEAD"), rows(":status", "200", "etag", `"x"`), "hi"},
		{rule, nil, rows(":status", "200", "etag", `"x"`), "hi"},
		{full, nil, rows(":status", "203", "cache-control", "max-age=5", "etag", `"x"`, "b", "1", ":status", "7", "b", "2"), "hi"},
		{full, fields("if-none-match", `"x"`), rows(":status", "304", "cache-control", "max-age=5", "etag", `"x"`, "b", "1", ":status", "7", "b", "2"), ""},
		{api.Rule{Status: 204, Body: "hi"}, nil, rows(":status", "204"), ""},
		{api.Rule{Status: 200, Body: "hi"}, fields("if-none-match", ""), rows(":status", "200"), "hi"},
		{api.Rule{Status: 204, Tag: "t", Body: "hi"}, fields("if-none-match", "t"), rows(":status", "304", "etag", "t"), ""},
		{api.Rule{}, nil, rows(":status", "000"), ""},
		{api.Rule{Status: 7}, nil, rows(":status", "007"), ""},
		{api.Rule{Status: 12345}, nil, rows(":status", "345"), ""},
		{api.Rule{Status: 1204, Body: "b"}, nil, rows(":status", "204"), "b"},
		{api.Rule{Status: -204, Body: "b"}, nil, rows(":status", "000"), "b"},
		{api.Rule{Status: math.MinInt64}, nil, rows(":status", "000"), ""},
		{api.Rule{Status: math.MaxInt64}, nil, rows(":status", "807"), ""},
	} {
		got, body := Reply(c.r, api.Talk{Fields: c.t, Body: "ignored"})
		if !slices.Equal(got, c.want) || body != c.body {
			t.Error(i, got, body)
		}
	}
}

func TestP28_2Round(t *testing.T) {
	w := made(t, config())
	w.Run(api.Step{Kind: api.WOpen}, ask(0, "/"))
	c := New(w, api.Rule{Status: 200, Body: "hi"})
	if c.Begun() != 0 {
		t.Error(c.Begun())
	}
	c.Round()
	want := []api.Talk{{Life: 1, Stream: 1, Fields: fields(":status", "200", "via", "2 reservoir"), Body: "hi", End: true}}
	if got := w.Heard(); !reflect.DeepEqual(got, want) || c.Begun() != 1 {
		t.Error(got, c.Begun())
	}
	c.Round()
	if len(w.Heard()) != 1 || c.Begun() != 1 {
		t.Error("it begins once", c.Begun())
	}
}

func TestP28_2WhatIsNotAnswered(t *testing.T) {
	w := made(t, config())
	w.Run(api.Step{Kind: api.WOpen}, api.Step{Kind: api.WAsk, Rows: request("POST", "/"), Text: "abc"}, ask(0, "/2"), ask(0, "/3"), ask(0, "/4"))
	w.Run(api.Step{Kind: api.WSend, Size: 10000}, api.Step{Kind: api.WPass, Size: 10000})
	w.Run(api.Step{Kind: api.WBreak, Stream: 3}, api.Step{Kind: api.WAnswer, Stream: 5, Rows: rows(":status", "404"), End: true})
	w.Run(api.Step{Kind: api.WCancel, Stream: 7})
	c := New(w, api.Rule{Status: 200})
	c.Rounds(3)
	// Not complete; broken by the origin; answered before; cancelled.
	if c.Begun() != 0 {
		t.Error(c.Begun(), w.Heard())
	}
	w.Run(api.Step{Kind: api.WText, Stream: 1, Text: "d", End: true})
	c.Rounds(1)
	if c.Begun() != 1 {
		t.Error(c.Begun())
	}
	// Of another life: the origin went, and what it was asked is lost.
	w.Run(ask(0, "/5"), api.Step{Kind: api.WSend, Size: 10000}, api.Step{Kind: api.WPass, Size: 10000}, api.Step{Kind: api.WCut}, ask(0, "/6"))
	c.Rounds(2)
	if c.Begun() != 2 {
		t.Error(c.Begun())
	}
}

func TestP28_2LongContents(t *testing.T) {
	w := made(t, config())
	w.Run(api.Step{Kind: api.WOpen}, ask(0, "/"), ask(0, "/2"))
	text := strings.Repeat("0123456789", 30000)
	c := New(w, api.Rule{Status: 200, Control: "no-store", Body: text})
	c.Rounds(1)
	if l := w.Heard(); len(l) != 2 || l[0].End || c.Begun() != 2 {
		t.Error(len(l), c.Begun())
	}
	c.Rounds(20)
	for _, x := range w.Heard() {
		if x.Body != text || !x.End {
			t.Error(len(x.Body), x.End)
		}
	}
}

func TestP28_2Rounds(t *testing.T) {
	// The connection's window lets 65535 bytes through in a round.
	for _, c := range []struct{ n, want int }{{-1, 0}, {0, 0}, {math.MinInt64, 0}, {1, 1}, {7, 7}, {299, 299}, {300, 300}, {301, 300}, {math.MaxInt64, 300}} {
		w := made(t, config())
		w.Do(api.Step{Kind: api.WOpen})
		New(w, api.Rule{}).Rounds(c.n)
		// A round sends what a client has to say; the next one acknowledges.
		moves := len(w.Moves(0, 0))
		if c.want == 0 && moves != 0 || c.want > 0 && moves == 0 {
			t.Error(c.n, moves)
		}
	}
	w := made(t, config())
	w.Run(api.Step{Kind: api.WOpen}, ask(0, "/"))
	c := New(w, api.Rule{Status: 200, Body: strings.Repeat("x", 65535*400)})
	c.Rounds(1000)
	got := len(w.Heard()[0].Body)
	c.Rounds(300)
	if l := w.Heard(); l[0].End && got == len(l[0].Body) || got < 250*65535/2 || got > 300*65535 {
		t.Error(got, len(l[0].Body))
	}
}

// dice is a row of numbers that look random, the same in each run.
type dice uint64

func (d *dice) roll(n int) int {
	*d = *d*6364136223846793005 + 1442695040888963407
	return int(uint64(*d)>>33) % n
}

func (d *dice) pick(l ...int) int { return l[d.roll(len(l))] }

// step is one of a script in which nobody violates the rules.
func (d *dice) step() api.Step {
	s := api.Step{Kind: d.pick(1, 2, 2, 2, 2, 3, 4, 5, 6, 6, 7, 8, 9, 10, 10, 10, 11, 11, 11, 12, 12, 12, 13, 13, 13, 14), N: d.roll(3), Size: d.pick(5, 60, 1000, 1<<18), Stream: 1 + 2*d.roll(8), End: d.roll(3) > 0}
	if d.roll(3) == 0 {
		s.Text = strings.Repeat("t", d.pick(1, 100, 30000))
	}
	if s.Kind == api.WAsk {
		s.Rows = request([]string{"GET", "GET", "GET", "POST", "HEAD"}[d.roll(5)], "/"+string(rune('a'+d.roll(2))))
		s.Rows[2].Value = string(rune('a' + d.roll(3)))
		if d.roll(3) == 0 {
			s.Rows = append(s.Rows, rows("accept", string(rune('p'+d.roll(2))))...)
		}
		if d.roll(6) == 0 {
			s.Rows = append(s.Rows, rows("cache-control", []string{"no-cache", "only-if-cached", "max-stale"}[d.roll(3)])...)
		}
	}
	if s.Kind == api.WAnswer {
		s.Rows = rows(":status", []string{"200", "304", "404", "100"}[d.roll(4)], "cache-control", []string{"max-age=60", "no-store", "max-age=0"}[d.roll(3)])
		if d.roll(2) == 0 {
			s.Rows = append(s.Rows, rows("vary", "accept", "etag", "\"x\"")...)
		}
	}
	return s
}

// sent is a request that a client began.
type sent struct {
	n, life, stream int
	whole, gone     bool
}

// note keeps the list of requests that must get an answer.
func note(w *script.World, l []sent, s api.Step, g api.Got) []sent {
	for i := range l {
		x := &l[i]
		if x.n != s.N || x.life != w.Life(0, s.N) {
			continue
		}
		if s.Kind == api.WClose && g.Ok || s.Kind == api.WCancel && g.Ok && x.stream == s.Stream {
			x.gone = true
		}
		if s.Kind == api.WText && x.stream == s.Stream && g.Ok && g.Sent == len(s.Text) {
			x.whole = x.whole || s.End
		}
	}
	if s.Kind == api.WAsk && g.Ok {
		l = append(l, sent{n: s.N, life: w.Life(0, s.N), stream: g.Stream, whole: s.End && g.Sent == len(s.Text)})
	}
	return l
}

func TestP28_3AndT4Progress(t *testing.T) {
	answers, resets := 0, 0
	for seed := range 300 {
		d := dice(seed)
		cfg := api.Cache{Budget: 5000, Share: 1, Conn: api.Config{Streams: d.pick(3, 20), Window: 65535, List: 65536}, Trans: d.pick(2, 5, 30), Ups: d.pick(1, 2, 3)}
		w := made(t, cfg)
		w.Run(api.Step{Kind: api.WOpen}, api.Step{Kind: api.WOpen, N: 1})
		var l []sent
		open := map[talk]bool{}
		for range 150 {
			s := d.step()
			g := w.Do(s)
			l = note(w, l, s, g)
			if g.Ok && (s.Kind == api.WAnswer || s.Kind == api.WMore) {
				open[talk{s.N, w.Life(1, s.N), s.Stream}] = !s.End || g.Sent < len(s.Text)
			}
		}
		// What an origin has begun without its end, it gives up.
		for x, is := range open {
			if is && x.life == w.Life(1, x.place) {
				w.Do(api.Step{Kind: api.WBreak, N: x.place, Stream: x.stream})
			}
		}
		before := len(w.Told())
		c := New(w, api.Rule{Status: 200, Control: []string{"no-store", "max-age=9", "max-age=0"}[d.roll(3)], Tag: `"q"`, Body: strings.Repeat("b", d.pick(0, 5, 70000))})
		c.Rounds(60)
		for _, x := range l {
			if x.gone || !x.whole || x.life != w.Life(0, x.n) {
				continue
			}
			i := slices.IndexFunc(w.Heard(), func(t api.Talk) bool { return t.Place == x.n && t.Life == x.life && t.Stream == x.stream })
			if i < 0 || !w.Heard()[i].End && !w.Heard()[i].Reset {
				t.Fatal(seed, x, w.Proxy().Under(), before)
			}
			if w.Heard()[i].Reset {
				resets++
			} else {
				answers++
			}
		}
		legal(t, w)
	}
	if answers < 300 || resets < 20 {
		t.Error(answers, resets)
	}
}

// legal checks what the proxy has sent.
func legal(t *testing.T, w *script.World) {
	t.Helper()
	for n := range 8 {
		if i := peer.Check(true, w.Moves(0, n)); i != -1 {
			t.Error("client", n, i)
		}
		if i := peer.Check(false, w.Moves(1, n)); i != -1 {
			t.Error("origin", n, i)
		}
	}
}

func TestP28_3AndT5NoStore(t *testing.T) {
	w := made(t, config())
	want := 0
	for n := range 3 {
		w.Do(api.Step{Kind: api.WOpen, N: n})
		for i := range 6 {
			w.Do(ask(n, "/"+strconv.Itoa(i%2)))
			want++
		}
	}
	text := strings.Repeat("0123456789", 3000)
	extra := fields("x", "1", "date", "y", "set-cookie", "z")
	c := New(w, api.Rule{Status: 200, Control: "no-store", Tag: "t", Body: text, Extra: extra})
	c.Rounds(60)
	// Every request is forwarded once, every answer is the origin's but for via.
	if len(w.Told()) != want || c.Begun() != want || len(w.Heard()) != want {
		t.Error(len(w.Told()), c.Begun(), len(w.Heard()))
	}
	head := fields(":status", "200", "cache-control", "no-store", "etag", "t", "x", "1", "date", "y", "set-cookie", "z", "via", "2 reservoir")
	for _, x := range w.Heard() {
		if !slices.Equal(x.Fields, head) || x.Body != text || !x.End || x.Reset {
			t.Error(x.Place, x.Stream, x.Fields)
		}
	}
	if n, _ := w.Proxy().Stored(); n != 0 {
		t.Error(n)
	}
	legal(t, w)
}

func TestT1AndT5MaxAge(t *testing.T) {
	w := made(t, config())
	w.Run(api.Step{Kind: api.WOpen}, ask(0, "/"), ask(0, "/"))
	c := New(w, api.Rule{Status: 200, Control: "max-age=10", Tag: "t", Body: "one"})
	c.Rounds(5)
	w.Run(api.Step{Kind: api.WClock, Size: 9}, api.Step{Kind: api.WClock, Size: 3}, ask(0, "/"))
	c.Rounds(5)
	if c.Begun() != 1 || len(w.Heard()) != 3 {
		t.Error(c.Begun())
	}
	for i, x := range w.Heard() {
		head := fields(":status", "200", "cache-control", "max-age=10", "etag", "t")
		if i > 0 {
			head = append(head, fields("age", strconv.Itoa(9*(i-1)))...)
		}
		if !slices.Equal(x.Fields, append(head, fields("via", "2 reservoir")...)) || x.Body != "one" {
			t.Error(i, x)
		}
	}
	// It is old: the next one is validated, and then the change is seen.
	w.Run(api.Step{Kind: api.WClock, Size: 10}, ask(0, "/"))
	c.Rounds(5)
	l := w.Told()
	if len(l) != 2 || !slices.Contains(l[1].Fields, api.Field{Name: "if-none-match", Value: "t"}) || w.Heard()[3].Body != "one" {
		t.Error(l)
	}
	w.Run(api.Step{Kind: api.WClock, Size: 20}, ask(0, "/"))
	New(w, api.Rule{Status: 200, Control: "max-age=10", Tag: "u", Body: "two"}).Rounds(5)
	if x := w.Heard()[4]; x.Body != "two" {
		t.Error(x)
	}
	// A POST that the origin accepts invalidates it.
	w.Run(api.Step{Kind: api.WAsk, Rows: request("POST", "/"), End: true})
	d := New(w, api.Rule{Status: 201})
	d.Rounds(5)
	if n, _ := w.Proxy().Stored(); n != 0 || d.Begun() == 0 {
		t.Error(n)
	}
}
