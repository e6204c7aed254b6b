package script

import (
	"math"
	"reflect"
	"slices"
	"strings"
	"testing"

	"reservoir/api"
	"reservoir/frame"
	"reservoir/peer"
)

func config() api.Cache {
	return api.Cache{Budget: 10000, Share: 0.1, Conn: api.Config{Streams: 2, Window: 65535, List: 65536}, Trans: 4, Ups: 1}
}

func made(t *testing.T, cfg api.Cache) *World {
	t.Helper()
	w, no := New(cfg)
	if no != api.OK {
		t.Fatal(no)
	}
	return w
}

func rows(s ...string) []api.Row {
	var l []api.Row
	for i := 0; i < len(s); i += 2 {
		l = append(l, api.Row{Field: api.Field{Name: s[i], Value: s[i+1]}, How: 1})
	}
	return l
}

func fields(s ...string) []api.Field {
	var l []api.Field
	for _, r := range rows(s...) {
		l = append(l, r.Field)
	}
	return l
}

func get(path string) []api.Row {
	return rows(":method", "GET", ":scheme", "https", ":authority", "a", ":path", path)
}

func post() []api.Row {
	return rows(":method", "POST", ":scheme", "https", ":authority", "a", ":path", "/")
}

// gives checks the result of one step.
func gives(t *testing.T, w *World, s api.Step, want api.Got) {
	t.Helper()
	if got := w.Do(s); got != want {
		t.Errorf("%+v: %+v", s, got)
	}
}

func ok(sent int) api.Got { return api.Got{Ok: true, Sent: sent} }

// asked is a world in which client 0 has asked for path, and the origin heard it.
func asked(t *testing.T, path string) *World {
	t.Helper()
	w := made(t, config())
	w.Run(api.Step{Kind: api.WOpen}, api.Step{Kind: api.WAsk, Rows: get(path), End: true}, api.Step{Kind: api.WSend, Size: 1000}, api.Step{Kind: api.WPass, Size: 1000}, api.Step{Kind: api.WReply, Size: 1000})
	return w
}

func TestP27_1New(t *testing.T) {
	w := made(t, config())
	if w.Proxy() == nil || w.Proxy() != w.Proxy() || w.Proxy().Now() != 0 || len(w.Heard())+len(w.Told()) != 0 {
		t.Error("a new world")
	}
	bad := config()
	bad.Trans = 0
	if w, no := New(bad); w != nil || no != api.ErrArg {
		t.Error(no)
	}
}

func TestP27Examples(t *testing.T) {
	w := asked(t, "/")
	want := []api.Talk{{Life: 1, Stream: 1, Fields: fields(":method", "GET", ":scheme", "https", ":authority", "a", ":path", "/", "via", "2 reservoir"), End: true}}
	if got := w.Told(); !reflect.DeepEqual(got, want) {
		t.Error(got)
	}
	w.Run(api.Step{Kind: api.WAnswer, Stream: 1, Rows: rows(":status", "200"), Text: "hi", End: true}, api.Step{Kind: api.WReply, Size: 1000}, api.Step{Kind: api.WHear, Size: 1000})
	want = []api.Talk{{Life: 1, Stream: 1, Fields: fields(":status", "200", "via", "2 reservoir"), Body: "hi", End: true}}
	if got := w.Heard(); !reflect.DeepEqual(got, want) {
		t.Error(got)
	}
}

func TestP27_2Nobody(t *testing.T) {
	w := made(t, config())
	for kind := -1; kind <= 20; kind++ {
		for _, n := range []int{0, 3, -1, 8, math.MinInt64, math.MaxInt64} {
			if kind == api.WOpen && n >= 0 && n < 8 || kind == api.WClock {
				continue
			}
			gives(t, w, api.Step{Kind: kind, N: n, Size: 5, Stream: 1, Text: "a"}, api.Got{})
		}
	}
	if down, up := w.Proxy().Waiting(); slices.Max(down) != -1 || slices.Max(up) != -1 {
		t.Error("something happened")
	}
	gives(t, w, api.Step{Kind: api.WClock, N: 99, Size: 7}, ok(0))
	if w.Proxy().Now() != 7 {
		t.Error(w.Proxy().Now())
	}
	// A client is no origin.
	gives(t, w, api.Step{Kind: api.WOpen, N: 2}, ok(0))
	gives(t, w, api.Step{Kind: api.WOpen, N: 2}, api.Got{})
	for _, kind := range []int{api.WAnswer, api.WMore, api.WBreak, api.WCut, api.WPass, api.WReply, 0, 15, -3} {
		gives(t, w, api.Step{Kind: kind, N: 2, Size: 5}, api.Got{})
	}
}

func TestP27_2Clients(t *testing.T) {
	w := made(t, config())
	got := w.Run(
		api.Step{Kind: api.WOpen, N: 1},
		api.Step{Kind: api.WAsk, N: 1, Rows: get("/"), End: true},
		api.Step{Kind: api.WAsk, N: 1, Rows: post(), Text: "abc", End: true},
		api.Step{Kind: api.WAsk, N: 1, Rows: post(), Text: "abc"},
		api.Step{Kind: api.WAsk, N: 1, Rows: post()},
		api.Step{Kind: api.WText, N: 1, Stream: 5, Text: "de"},
		api.Step{Kind: api.WText, N: 1, Stream: 5, End: true},
		api.Step{Kind: api.WText, N: 1, Stream: 5, End: true},
		api.Step{Kind: api.WText, N: 1, Stream: 7, Text: "de", End: true},
		api.Step{Kind: api.WCancel, N: 1, Stream: 7},
		api.Step{Kind: api.WCancel, N: 1, Stream: 7},
		api.Step{Kind: api.WAsk, N: 1, Rows: rows("a", strings.Repeat("x", 1<<17)), Text: "abc"},
	)
	want := []api.Got{ok(0), {Ok: true, Stream: 1}, {Ok: true, Stream: 3, Sent: 3}, {Ok: true, Stream: 5, Sent: 3}, {Ok: true, Stream: 7}, ok(2), ok(0), {}, ok(2), ok(0), {}, {}}
	if !slices.Equal(got, want) {
		t.Error(got)
	}
	gives(t, w, api.Step{Kind: api.WSend, N: 1, Size: 30}, ok(30))
	gives(t, w, api.Step{Kind: api.WSend, N: 1, Size: -5}, ok(0))
	if n := w.Do(api.Step{Kind: api.WSend, N: 1, Size: math.MaxInt64}).Sent; n < 100 {
		t.Error(n)
	}
	gives(t, w, api.Step{Kind: api.WSend, N: 1, Size: 5}, ok(0))
	if n := w.Proxy().Under(); n != 2 {
		t.Error("streams 1 and 3 are taken, the others are refused", n)
	}
	gives(t, w, api.Step{Kind: api.WHear, N: 1, Size: 10}, ok(10))
	gives(t, w, api.Step{Kind: api.WClose, N: 1}, ok(0))
	gives(t, w, api.Step{Kind: api.WClose, N: 1}, api.Got{})
	gives(t, w, api.Step{Kind: api.WAsk, N: 1, Rows: get("/"), End: true}, api.Got{})
	gives(t, w, api.Step{Kind: api.WCancel, N: 1, Stream: 1}, api.Got{})
	if n := w.Proxy().Under(); n != 0 {
		t.Error(n)
	}
	if l := w.Run(); len(l) != 0 {
		t.Error(l)
	}
}

func TestP27_2CancelsAndBreaks(t *testing.T) {
	w := asked(t, "/")
	gives(t, w, api.Step{Kind: api.WBreak, Stream: 3}, api.Got{})
	gives(t, w, api.Step{Kind: api.WBreak, Stream: 1}, ok(0))
	w.Run(api.Step{Kind: api.WReply, Size: 1000}, api.Step{Kind: api.WHear, Size: 1000})
	if l := w.Heard(); len(l) != 1 || !slices.Equal(l[0].Fields, fields(":status", "502", "content-length", "0")) || !l[0].End {
		t.Error(l)
	}
	w = asked(t, "/")
	w.Run(api.Step{Kind: api.WAnswer, Stream: 1, Rows: rows(":status", "200")}, api.Step{Kind: api.WReply, Size: 1000}, api.Step{Kind: api.WBreak, Stream: 1}, api.Step{Kind: api.WReply, Size: 1000}, api.Step{Kind: api.WHear, Size: 1000})
	if l := w.Heard(); len(l) != 1 || !l[0].Reset || l[0].Code != api.Internal || l[0].End {
		t.Error(l)
	}
	w = asked(t, "/")
	w.Run(api.Step{Kind: api.WCancel, Stream: 1}, api.Step{Kind: api.WSend, Size: 1000}, api.Step{Kind: api.WPass, Size: 1000})
	if l := w.Told(); len(l) != 1 || !l[0].Reset || l[0].Code != api.Cancel || !l[0].End {
		t.Error(l)
	}
}

func TestP27_2Origins(t *testing.T) {
	w := asked(t, "/")
	gives(t, w, api.Step{Kind: api.WAnswer, Stream: 3, Rows: rows(":status", "200"), Text: "a"}, api.Got{})
	gives(t, w, api.Step{Kind: api.WMore, Stream: 1, Text: "a"}, api.Got{})
	gives(t, w, api.Step{Kind: api.WAnswer, Stream: 1, Rows: rows(":status", "200"), Text: "abc"}, ok(3))
	gives(t, w, api.Step{Kind: api.WAnswer, Stream: 1, Rows: rows(":status", "200"), Text: "abc"}, api.Got{})
	gives(t, w, api.Step{Kind: api.WMore, Stream: 1, Text: "de"}, ok(2))
	gives(t, w, api.Step{Kind: api.WMore, Stream: 1, Text: "", End: true}, ok(0))
	gives(t, w, api.Step{Kind: api.WMore, Stream: 1, Text: "", End: true}, api.Got{})
	gives(t, w, api.Step{Kind: api.WReply, Size: 12}, ok(12))
	if n := w.Do(api.Step{Kind: api.WReply, Size: 10000}).Sent; n < 30 {
		t.Error(n)
	}
	if n := w.Do(api.Step{Kind: api.WHear, Size: 10000}).Sent; n < 30 {
		t.Error(n)
	}
	if l := w.Heard(); len(l) != 1 || l[0].Body != "abcde" || !l[0].End {
		t.Error(l)
	}
	// An answer that has its end at once.
	w = asked(t, "/")
	gives(t, w, api.Step{Kind: api.WAnswer, Stream: 1, Rows: rows(":status", "204"), End: true}, ok(0))
	gives(t, w, api.Step{Kind: api.WMore, Stream: 1, Text: "a"}, api.Got{})
	gives(t, w, api.Step{Kind: api.WCut}, ok(0))
	gives(t, w, api.Step{Kind: api.WCut}, api.Got{})
	w = asked(t, "/")
	gives(t, w, api.Step{Kind: api.WCut}, ok(0))
	gives(t, w, api.Step{Kind: api.WAnswer, Stream: 1, Rows: rows(":status", "204"), End: true}, api.Got{})
	gives(t, w, api.Step{Kind: api.WReply, Size: 1000}, api.Got{})
	gives(t, w, api.Step{Kind: api.WBreak, Stream: 1}, api.Got{})
}

func TestP27_2Pass(t *testing.T) {
	w := made(t, config())
	w.Run(api.Step{Kind: api.WOpen}, api.Step{Kind: api.WAsk, Rows: get("/"), End: true}, api.Step{Kind: api.WSend, Size: 1000})
	gives(t, w, api.Step{Kind: api.WPass, Size: 24}, ok(24))
	if m := w.Moves(1, 0); len(m) != 1 || !m[0].Said || string(m[0].Bytes) != frame.Preface {
		t.Error(m)
	}
	if n := w.Do(api.Step{Kind: api.WPass, Size: 1000}).Sent; n < 50 {
		t.Error(n)
	}
	gives(t, w, api.Step{Kind: api.WPass, Size: 1000}, ok(0))
	if len(w.Told()) != 1 || len(w.Heard()) != 0 {
		t.Error(w.Told())
	}
}

func TestP27_3LivesAndMoves(t *testing.T) {
	w := made(t, config())
	w.Run(api.Step{Kind: api.WOpen}, api.Step{Kind: api.WAsk, Rows: get("/"), End: true}, api.Step{Kind: api.WSend, Size: 40}, api.Step{Kind: api.WSend, Size: 0}, api.Step{Kind: api.WSend, Size: 1000}, api.Step{Kind: api.WHear, Size: 9}, api.Step{Kind: api.WHear, Size: 0})
	m := w.Moves(0, 0)
	if len(m) != 3 || m[0].Said || m[1].Said || !m[2].Said || len(m[0].Bytes) != 40 || len(m[2].Bytes) != 9 || !strings.HasPrefix(string(m[0].Bytes), frame.Preface) {
		t.Error(m)
	}
	clear(m[0].Bytes)
	clear(m)
	if again := w.Moves(0, 0); again[0].Bytes[0] != 'P' || len(again) != 3 {
		t.Error("memory is shared")
	}
	for _, c := range [][3]int{{0, 0, 1}, {1, 0, 1}, {0, 1, 0}, {1, 1, 0}, {2, 0, 0}, {-1, 0, 0}, {0, -1, 0}, {0, 8, 0}, {1, 8, 0}, {math.MaxInt64, math.MinInt64, 0}, {0, math.MaxInt64, 0}} {
		if got := w.Life(c[0], c[1]); got != c[2] {
			t.Error(c, got)
		}
		if m := w.Moves(c[0], c[1]); c[2] == 0 && len(m) != 0 {
			t.Error(c, m)
		}
	}
	// Moves stay when somebody goes, and begin anew with the next one.
	w.Do(api.Step{Kind: api.WClose})
	if len(w.Moves(0, 0)) != 3 || w.Life(0, 0) != 1 {
		t.Error("gone")
	}
	w.Do(api.Step{Kind: api.WOpen})
	if len(w.Moves(0, 0)) != 0 || w.Life(0, 0) != 2 {
		t.Error("the next life")
	}
	w.Do(api.Step{Kind: api.WCut})
	w.Run(api.Step{Kind: api.WAsk, Rows: get("/"), End: true}, api.Step{Kind: api.WSend, Size: 1000})
	if w.Life(1, 0) != 2 || len(w.Moves(1, 0)) != 0 {
		t.Error("the next origin")
	}
}

func TestP27_3AnOriginMayAppearByACut(t *testing.T) {
	w := made(t, config())
	w.Run(api.Step{Kind: api.WOpen}, api.Step{Kind: api.WAsk, Rows: get("/"), End: true}, api.Step{Kind: api.WAsk, Rows: get("/"), End: true}, api.Step{Kind: api.WSend, Size: 1000})
	gives(t, w, api.Step{Kind: api.WCut}, ok(0))
	if w.Life(1, 0) != 2 {
		t.Error(w.Life(1, 0))
	}
	if n := w.Do(api.Step{Kind: api.WPass, Size: 1000}).Sent; n < 50 {
		t.Error(n)
	}
	if l := w.Told(); len(l) != 1 || l[0].Life != 2 || l[0].Stream != 1 || !l[0].End {
		t.Error(l)
	}
}

func TestP27_4Talks(t *testing.T) {
	w := made(t, config())
	w.Run(api.Step{Kind: api.WOpen, N: 3}, api.Step{Kind: api.WAsk, N: 3, Rows: post(), Text: "ab"}, api.Step{Kind: api.WAsk, N: 3, Rows: post()}, api.Step{Kind: api.WClock, Size: 5}, api.Step{Kind: api.WSend, N: 3, Size: 1000}, api.Step{Kind: api.WPass, Size: 1000})
	l := w.Told()
	if len(l) != 2 || l[0].Stream != 1 || l[1].Stream != 3 || l[0].Body != "ab" || l[0].End || l[0].At != 5 || l[0].Place != 0 || l[0].Life != 1 {
		t.Error(l)
	}
	// The end is that of the last event; the time is that of the head.
	w.Run(api.Step{Kind: api.WClock, Size: 9}, api.Step{Kind: api.WText, N: 3, Stream: 1, Text: "cd", End: true}, api.Step{Kind: api.WSend, N: 3, Size: 1000}, api.Step{Kind: api.WPass, Size: 1000})
	if l := w.Told(); len(l) != 2 || l[0].Body != "abcd" || !l[0].End || l[0].At != 5 {
		t.Error(l)
	}
	w.Run(api.Step{Kind: api.WAnswer, Stream: 3, Rows: rows(":status", "200"), Text: "x"}, api.Step{Kind: api.WAnswer, Stream: 1, Rows: rows(":status", "404"), End: true}, api.Step{Kind: api.WReply, Size: 1000}, api.Step{Kind: api.WHear, N: 3, Size: 1000})
	l = w.Heard()
	if len(l) != 2 || l[0].Place != 3 || l[0].At != 9 || l[0].Life != 1 {
		t.Error(l)
	}
	for _, x := range l {
		if x.Stream == 1 && (!x.End || x.Fields[0].Value != "404") || x.Stream == 3 && (x.End || x.Body != "x") {
			t.Error(x)
		}
	}
	l[0].Fields[0].Value = "changed"
	clear(l)
	if again := w.Heard(); len(again) != 2 || again[0].Fields[0].Value == "changed" || again[0].Stream == 0 {
		t.Error("memory is shared")
	}
}

func TestP27_4TrailersAndLostConnections(t *testing.T) {
	w := asked(t, "/")
	w.Run(api.Step{Kind: api.WAnswer, Stream: 1, Rows: rows(":status", "200"), Text: "x"}, api.Step{Kind: api.WAnswer, Stream: 1, Rows: rows("t", "u"), End: true}, api.Step{Kind: api.WReply, Size: 1000}, api.Step{Kind: api.WHear, Size: 1000})
	if l := w.Heard(); len(l) != 1 || !l[0].End || l[0].Fields[0].Name != ":status" || l[0].Body != "x" {
		t.Error(l)
	}
	// A GOAWAY is no talk.
	w = made(t, config())
	w.Do(api.Step{Kind: api.WOpen})
	w.Proxy().Do(api.Act{Kind: api.PBytes, Bytes: []byte("nonsense")})
	if n := w.Do(api.Step{Kind: api.WHear, Size: 1000}).Sent; n < 40 || len(w.Heard()) != 0 {
		t.Error(n, w.Heard())
	}
}

func TestP27_4TheReceiverCredits(t *testing.T) {
	// Much more than a window goes through in both directions.
	w := asked(t, "/")
	text := strings.Repeat("x", 200000)
	w.Run(api.Step{Kind: api.WAnswer, Stream: 1, Rows: rows(":status", "200")})
	sent := 0
	for range 20 {
		sent += w.Do(api.Step{Kind: api.WMore, Stream: 1, Text: text[sent:], End: true}).Sent
		w.Run(api.Step{Kind: api.WReply, Size: 1 << 20}, api.Step{Kind: api.WHear, Size: 1 << 20}, api.Step{Kind: api.WSend, Size: 1 << 20}, api.Step{Kind: api.WPass, Size: 1 << 20})
	}
	if l := w.Heard(); len(l[0].Body) != len(text) || !l[0].End {
		t.Error(sent, len(l[0].Body))
	}
	id := w.Do(api.Step{Kind: api.WAsk, Rows: post()}).Stream
	sent = 0
	for range 20 {
		sent += w.Do(api.Step{Kind: api.WText, Stream: id, Text: text[sent:], End: true}).Sent
		w.Run(api.Step{Kind: api.WSend, Size: 1 << 20}, api.Step{Kind: api.WPass, Size: 1 << 20}, api.Step{Kind: api.WReply, Size: 1 << 20}, api.Step{Kind: api.WHear, Size: 1 << 20})
	}
	if l := w.Told(); len(l) != 2 || len(l[1].Body) != len(text) || !l[1].End {
		t.Error(sent)
	}
}

func TestP27_3And4SingleBytes(t *testing.T) {
	w := asked(t, "/")
	w.Run(api.Step{Kind: api.WHear, Size: 1000}, api.Step{Kind: api.WSend, Size: 1000}, api.Step{Kind: api.WHear, Size: 1000})
	w.Run(api.Step{Kind: api.WAnswer, Stream: 1, Rows: rows(":status", "200"), Text: "x"})
	n := w.Do(api.Step{Kind: api.WReply, Size: 1 << 20}).Sent - 1
	if n < 1 {
		t.Fatal(n)
	}
	gives(t, w, api.Step{Kind: api.WHear, Size: 1}, ok(1))
	if m := w.Moves(0, 0); len(m[len(m)-1].Bytes) != 1 || !m[len(m)-1].Said {
		t.Error(m)
	}
	w.Do(api.Step{Kind: api.WHear, Size: 1000})
	// The byte is credited: to the stream, and to the connection.
	gives(t, w, api.Step{Kind: api.WSend, Size: 1000}, ok(26))
	gives(t, w, api.Step{Kind: api.WSend, Size: 1000}, ok(0))
}

// dice is a row of numbers that look random, the same in each run.
type dice uint64

func (d *dice) roll(n int) int {
	*d = *d*6364136223846793005 + 1442695040888963407
	return int(uint64(*d)>>33) % n
}

func (d *dice) pick(l ...int) int { return l[d.roll(len(l))] }

// step is one of a script.
func (d *dice) step() api.Step {
	s := api.Step{Kind: d.pick(1, 2, 2, 2, 3, 4, 5, 6, 6, 6, 7, 8, 9, 10, 10, 10, 11, 11, 11, 12, 12, 12, 13, 13, 13, 14), N: d.roll(3), Size: d.pick(5, 60, 1000, 1<<18), Stream: 1 + 2*d.roll(6), End: d.roll(3) > 0}
	if d.roll(3) == 0 {
		s.Text = strings.Repeat("t", d.pick(1, 100, 30000))
	}
	if s.Kind == api.WAsk {
		s.Rows = get("/" + string(rune('a'+d.roll(2))))
		if d.roll(5) == 0 {
			s.Rows = post()
		}
		s.Rows = append(s.Rows, rows("accept", string(rune('p'+d.roll(2))))...)
	}
	if s.Kind == api.WAnswer {
		s.Rows = rows(":status", []string{"200", "304", "404", "100"}[d.roll(4)], "cache-control", []string{"max-age=60", "no-store", "max-age=0"}[d.roll(3)])
		if d.roll(2) == 0 {
			s.Rows = append(s.Rows, rows("vary", "accept", "etag", "\"x\"")...)
		}
	}
	return s
}

func TestT2AndT3OfEveryScript(t *testing.T) {
	for seed := range 200 {
		d := dice(seed)
		cfg := api.Cache{Budget: 5000, Share: 1, Conn: api.Config{Streams: 3, Window: 65535, List: 65536}, Trans: 5, Ups: 2}
		w := made(t, cfg)
		w.Run(api.Step{Kind: api.WOpen}, api.Step{Kind: api.WOpen, N: 1})
		for range 200 {
			w.Do(d.step())
			if _, size := w.Proxy().Stored(); size > cfg.Budget || w.Proxy().Under() > cfg.Trans {
				t.Fatal(seed, size)
			}
			down, up := w.Proxy().Waiting()
			if max(slices.Max(down), slices.Max(up)) > api.MaxQueue+17 {
				t.Fatal(seed, down, up)
			}
		}
		for n := range 8 {
			if i := peer.Check(true, w.Moves(0, n)); i != -1 {
				t.Fatal(seed, "client", n, i)
			}
			if i := peer.Check(false, w.Moves(1, n)); i != -1 {
				t.Fatal(seed, "origin", n, i)
			}
		}
	}
}
