package proxy

import (
	"bytes"
	"math"
	"slices"
	"strconv"
	"testing"

	"reservoir/api"
	"reservoir/conn"
	"reservoir/day"
	"reservoir/frame"
)

func TestP26_1New(t *testing.T) {
	for i, change := range []func(c *api.Cache){
		func(c *api.Cache) {},
		func(c *api.Cache) { c.Budget, c.Trans, c.Ups = 0, 1, 1 },
		func(c *api.Cache) { c.Budget, c.Trans, c.Ups = api.MaxBudget, api.MaxTrans, api.MaxUp },
		func(c *api.Cache) { c.Share = math.NaN() },
		func(c *api.Cache) { c.Budget = -1 },
		func(c *api.Cache) { c.Budget = api.MaxBudget + 1 },
		func(c *api.Cache) { c.Trans = 0 },
		func(c *api.Cache) { c.Trans = api.MaxTrans + 1 },
		func(c *api.Cache) { c.Ups = 0 },
		func(c *api.Cache) { c.Ups = api.MaxUp + 1 },
		func(c *api.Cache) { c.Conn.Streams = 0 },
		func(c *api.Cache) { c.Conn.Window = 1 },
		func(c *api.Cache) { c.Conn.List = api.MaxList + 1 },
	} {
		cfg := config()
		change(&cfg)
		p, no := New(cfg)
		if good := i < 4; good != (no == api.OK) || good != (p != nil) || !good && no != api.ErrArg {
			t.Error(i, no)
		}
	}
	p, _ := New(config())
	n, size := p.Stored()
	if p.Now() != 0 || n != 0 || size != 0 || p.Under() != 0 {
		t.Error("a new proxy")
	}
}

func TestP26_2And7Places(t *testing.T) {
	p, _ := New(config())
	took := func(want bool, a api.Act) {
		t.Helper()
		if d := p.Do(a); d.Took != want || len(d.Bytes) > 0 || len(d.Dials) > 0 {
			t.Error(a, d)
		}
	}
	took(true, api.Act{Kind: api.POpen})
	took(false, api.Act{Kind: api.POpen})
	took(true, api.Act{Kind: api.PClose})
	took(false, api.Act{Kind: api.PClose})
	took(true, api.Act{Kind: api.POpen, N: 7})
	for _, n := range []int{-1, 8, 3, math.MinInt64, math.MaxInt64} {
		if n != 3 {
			took(false, api.Act{Kind: api.POpen, N: n})
		}
		for _, kind := range []int{api.PBytes, api.PClose, api.PRoom, api.PUpBytes, api.PUpClose, api.PUpRoom} {
			took(false, api.Act{Kind: kind, N: n, Size: 5, Bytes: []byte("x")})
		}
	}
	for _, kind := range []int{0, -1, 9, math.MaxInt64} {
		took(false, api.Act{Kind: kind, N: 7})
	}
	down, up := p.Waiting()
	if !slices.Equal(down, []int{-1, -1, -1, -1, -1, -1, -1, 27}) || !slices.Equal(up, slices.Repeat([]int{-1}, 8)) {
		t.Error(down, up)
	}
	clear(down)
	d := p.Do(api.Act{Kind: api.PRoom, N: 7, Size: 20})
	if down, _ := p.Waiting(); !d.Took || len(d.Bytes) != 20 || down[7] != 7 || down[0] != -1 {
		t.Error(d, down)
	}
	if d := p.Do(api.Act{Kind: api.PRoom, N: 7, Size: -1}); !d.Took || len(d.Bytes) != 0 {
		t.Error(d)
	}
	took(true, api.Act{Kind: api.PBytes, N: 7})
}

func TestP26_2And7Clock(t *testing.T) {
	p, _ := New(config())
	for _, c := range [][2]int{{7, 7}, {5, 7}, {-1, 7}, {math.MinInt64, 7}, {8, 8}, {api.MaxInt, api.MaxInt}, {math.MaxInt64, api.MaxInt}, {3, api.MaxInt}} {
		if d := p.Do(api.Act{Kind: api.PClock, N: -5, Size: c[0]}); !d.Took || p.Now() != c[1] {
			t.Error(c, p.Now())
		}
	}
}

func TestP26Examples(t *testing.T) {
	w := newWorld(t, config())
	w.open(0)
	w.get(0, "/")
	if !slices.Equal(w.dials, []api.Dial{{N: 0, Authority: "a"}}) || !bytes.HasPrefix(w.up[0].moves[1].Bytes, []byte(frame.Preface)) {
		t.Error(w.dials)
	}
	w.asked(0, 1, "", true, plain("/")...)
	w.tell(0, 1, "hi", true, ":status", "200", "cache-control", "max-age=60")
	w.has(0, 1, "hi", ":status", "200", "cache-control", "max-age=60", "via", "2 reservoir")
	w.get(0, "/")
	w.has(0, 3, "hi", ":status", "200", "cache-control", "max-age=60", "age", "0", "via", "2 reservoir")
	w.forwarded(0, 1)
	if n, size := w.p.Stored(); n != 1 || size != 100+len("https://a/")+len("cache-controlmax-age=60")+2 || w.p.Under() != 0 {
		t.Error(n, size, w.p.Under())
	}
}

func TestP26_3MalformedRequests(t *testing.T) {
	w := newWorld(t, config())
	w.open(0)
	w.isReset(0, w.get(0, "/", "X", "y"), api.Protocol)
	w.isReset(0, w.get(0, "/", "content-length", "5"), api.Protocol)
	w.isReset(0, w.get(0, "/", "content-length", "1"), api.Protocol)
	w.isReset(0, w.ask(0, false, "CONNECT", "/"), api.Protocol)
	w.forwarded(0, 0)
	w.get(0, "/", "content-length", "0")
	w.forwarded(0, 1)
	if w.p.Under() != 1 {
		t.Error(w.p.Under())
	}
}

func TestP26_3TooManyTransactions(t *testing.T) {
	cfg := config()
	cfg.Trans = 2
	w := newWorld(t, cfg)
	w.open(0)
	w.get(0, "/1")
	w.ask(0, false, "POST", "/2")
	w.isReset(0, w.get(0, "/3"), api.Refused)
	// A wrong one is wrong all the same.
	w.isReset(0, w.get(0, "/3", "X", "y"), api.Protocol)
	w.tell(0, 1, "", true, ":status", "200")
	w.get(0, "/4")
	w.forwarded(0, 3)
}

func TestP26_3RequestContent(t *testing.T) {
	w := newWorld(t, config())
	s := w.open(0)
	id := w.ask(0, false, "POST", "/", "content-length", "5")
	s.c.Data(id, "ab", false)
	w.pump()
	w.asked(0, 1, "ab", false, ":method", "POST", ":scheme", "https", ":authority", "a", ":path", "/", "content-length", "5", "via", "2 reservoir")
	s.c.Data(id, "cde", true)
	w.pump()
	if h := w.up[0].on[1]; h.body != "abcde" || !h.end {
		t.Error(h)
	}
	// Trailers end it, too.
	id = w.ask(0, false, "POST", "/")
	s.c.Data(id, "x", false)
	s.c.Head(id, asRows(list("t", "u")), true)
	w.pump()
	if h := w.up[0].on[3]; h.body != "x" || !h.end || h.reset {
		t.Error(h)
	}
}

func TestP26_3WrongLengths(t *testing.T) {
	for i, c := range []struct {
		body string
		end  bool
	}{{"abcd", false}, {"abcd", true}, {"ab", true}, {"", true}} {
		w := newWorld(t, config())
		s := w.open(0)
		id := w.ask(0, false, "POST", "/", "content-length", "3")
		s.c.Data(id, c.body, c.end)
		w.pump()
		w.isReset(0, id, api.Protocol)
		w.cancelled(0, 1, api.Cancel)
		if w.p.Under() != 0 {
			t.Error(i, w.p.Under())
		}
	}
}

func TestP26_3ALengthOfNothing(t *testing.T) {
	w := newWorld(t, config())
	s := w.open(0)
	a, b := w.ask(0, false, "POST", "/", "content-length", "0"), w.ask(0, false, "POST", "/", "content-length", "0")
	s.c.Data(a, "x", false)
	s.c.Data(b, "", true)
	w.pump()
	w.isReset(0, a, api.Protocol)
	w.cancelled(0, 1, api.Cancel)
	w.isQuiet(0, b)
	if h := w.up[0].on[3]; !h.end || h.reset {
		t.Error(h)
	}
}

func TestP26_3SingleBytes(t *testing.T) {
	w := newWorld(t, config())
	s := w.open(0)
	id := w.ask(0, false, "POST", "/")
	for i, c := range []string{"a", "b", ""} {
		s.c.Data(id, c, i == 2)
		w.pump()
	}
	if h := w.up[0].on[1]; h.body != "ab" || !h.end {
		t.Error(h)
	}
	w.tell(0, 1, "c", false, ":status", "200")
	w.more(0, 1, "d", false)
	if h := s.on[id]; h.body != "cd" {
		t.Error(h)
	}
	w.more(0, 1, "", true)
	w.has(0, id, "cd", ":status", "200", "via", "2 reservoir")
	w.balanced()
}

func TestP26_3LeavingWithPendingContent(t *testing.T) {
	w := newWorld(t, config())
	s := w.open(0)
	other := w.open(1)
	w.get(0, "/first")
	w.up[0].mean = true
	id := w.ask(0, false, "POST", "/")
	s.c.Data(id, repeat("x", 65535), false)
	w.pump()
	s.c.Data(id, repeat("x", 30000), false)
	w.pump()
	if h := w.up[0].on[3]; len(h.body) != 65535 {
		t.Error(len(h.body))
	}
	w.leave(0)
	w.cancelled(0, 3, api.Cancel)
	other.c.Shut(api.NoError)
	w.pump()
	w.balanced()
}

func TestP26_3APlaceThatIsTakenAgain(t *testing.T) {
	// What goes on alone is not for the next client of the same place.
	w := newWorld(t, config())
	w.open(0)
	w.open(1)
	w.get(0, "/")
	waits := w.get(1, "/")
	w.leave(0)
	w.open(0)
	mine := w.ask(0, false, "POST", "/mine")
	w.down[0].c.Data(mine, "x", false)
	w.pump()
	w.tell(0, 1, "hi", true, ":status", "200", "cache-control", "max-age=5")
	w.isQuiet(0, mine)
	w.has(1, waits, "hi", ":status", "200", "cache-control", "max-age=5", "age", "0", "via", "2 reservoir")
	w.down[0].c.Data(mine, "y", true)
	w.pump()
	w.tell(0, 3, "yours", true, ":status", "201")
	w.has(0, mine, "yours", ":status", "201", "via", "2 reservoir")
	w.balanced()
}

func TestP26_3FlowOfRequestContent(t *testing.T) {
	// Much more than the windows goes through; and what comes for no
	// transaction is returned.
	w := newWorld(t, config())
	s := w.open(0)
	id := w.ask(0, false, "POST", "/")
	text, sent := repeat("0123456789", 50000), 0
	for range 1000 {
		n, _ := s.c.Data(id, text[sent:], true)
		sent += n
		w.pump()
		if sent == len(text) {
			break
		}
	}
	if h := w.up[0].on[1]; h.body != text || !h.end {
		t.Error(len(h.body), h.end)
	}
	// A stopped origin stops the client at the window of its stream.
	w.up[0].mean = true
	id = w.ask(0, false, "POST", "/2")
	for range 10 {
		s.c.Data(id, text, true)
		w.pump()
	}
	down, up := w.p.Waiting()
	if h := w.up[0].on[3]; len(h.body) != 65535 || down[0] != 0 || up[0] != 0 {
		t.Error(len(h.body), down, up)
	}
	// It ends, and all that was pending is returned for the connection.
	s.c.Reset(id, api.Cancel)
	w.pump()
	w.cancelled(0, 3, api.Cancel)
	w.up[0].mean = false
	w.up[0].c.Credit(0+99, 65535)
	id = w.ask(0, false, "POST", "/3")
	n, _ := s.c.Data(id, text, true)
	if n < 65535 {
		t.Error("not all was returned", n)
	}
}

func TestP26_3LosingTheClient(t *testing.T) {
	w := newWorld(t, config())
	s := w.open(0)
	id := w.get(0, "/")
	s.c.Reset(id, api.Cancel)
	w.pump()
	w.cancelled(0, 1, api.Cancel)
	if w.p.Under() != 0 {
		t.Error(w.p.Under())
	}
	// By closing, and by a connection error.
	w.open(1)
	w.get(1, "/1")
	w.get(1, "/2")
	w.leave(1)
	w.cancelled(0, 3, api.Cancel)
	w.cancelled(0, 5, api.Cancel)
	w.get(0, "/3")
	w.do(api.Act{Kind: api.PBytes, N: 0, Bytes: frame.Put(nil, api.Frame{Type: api.TPing, Payload: make([]byte, 7)})})
	d := w.do(api.Act{Kind: api.PRoom, N: 0, Size: lots})
	s.events(s.c.Feed(d.Bytes))
	if !bytes.HasSuffix(d.Bytes, []byte{0, 0, 0, byte(api.FrameSize)}) || w.p.Under() != 0 {
		t.Error(d, w.p.Under())
	}
	w.carry(w.up[0], 0, api.PUpBytes, api.PUpRoom, lots)
	w.cancelled(0, 7, api.Cancel)
	if n, _ := w.p.Stored(); n != 0 {
		t.Error("stored")
	}
}

func TestP26_3GoingOnAlone(t *testing.T) {
	w := newWorld(t, config())
	a, _ := w.open(0), w.open(1)
	first, second := w.get(0, "/"), w.get(1, "/")
	w.forwarded(0, 1)
	a.c.Reset(first, api.Cancel)
	w.pump()
	if w.up[0].on[1].reset || w.p.Under() != 2 {
		t.Error("it goes on", w.p.Under())
	}
	// More content than any window: it is paid without a client.
	text := repeat("x", 3000)
	w.tell(0, 1, text, false, ":status", "200", "cache-control", "max-age=5")
	w.isQuiet(1, second)
	w.more(0, 1, text, true)
	w.has(1, second, text+text, ":status", "200", "cache-control", "max-age=5", "age", "0", "via", "2 reservoir")
	if w.p.Under() != 0 {
		t.Error(w.p.Under())
	}
	// The one that waits loses its client, and then the other one.
	w.get(0, "/2")
	s := w.get(1, "/2")
	w.down[1].c.Reset(s, api.Cancel)
	w.pump()
	if w.p.Under() != 1 || w.up[0].on[3].reset {
		t.Error(w.p.Under())
	}
}

func TestP26_3AloneButRefusedOrFailed(t *testing.T) {
	// It is to be forwarded, but there is no room; then it fails alone.
	w := newWorld(t, config())
	w.open(0)
	w.open(1)
	x, y := w.get(0, "/"), w.get(1, "/")
	w.down[0].c.Reset(x, api.Cancel)
	w.pump()
	w.cut(0)
	if w.p.Under() != 1 {
		t.Error(w.p.Under())
	}
	w.pump()
	if len(w.dials) != 2 {
		t.Error("the one that waited is forwarded itself", w.dials)
	}
	w.isQuiet(1, y)
	w.tell(0, 1, "hi", true, ":status", "200")
	w.has(1, y, "hi", ":status", "200", "via", "2 reservoir")
}

func TestP26_4Waiting(t *testing.T) {
	w := newWorld(t, config())
	w.open(0)
	w.manual = true
	for range 7 {
		w.get(0, "/")
	}
	w.manual = false
	w.get(0, "/")
	w.forwarded(0, 1)
	w.tell(0, 1, "hi", true, ":status", "200", "cache-control", "max-age=9")
	for i := range 8 {
		l := []string{":status", "200", "cache-control", "max-age=9", "age", "0", "via", "2 reservoir"}
		if i == 0 {
			l = []string{":status", "200", "cache-control", "max-age=9", "via", "2 reservoir"}
		}
		w.has(0, 2*i+1, "hi", l...)
	}
	w.forwarded(0, 1)
}

func TestP26_4WhatDoesNotWait(t *testing.T) {
	for _, more := range [][]string{{"cache-control", "x"}, {"pragma", "x"}, {"authorization", "x"}, {"range", "x"}, {"if-match", "x"}, {"if-none-match", "x"}, {"if-modified-since", "x"}, {"if-unmodified-since", "x"}, {"if-range", "x"}} {
		w := newWorld(t, config())
		w.open(0)
		w.get(0, "/")
		w.get(0, "/", more...)
		w.forwarded(0, 2)
		// Nor does another one wait for it.
		w = newWorld(t, config())
		w.open(0)
		w.get(0, "/", more...)
		w.get(0, "/")
		w.get(0, "/", "accept", "x")
		w.forwarded(0, 2)
	}
	w := newWorld(t, config())
	w.open(0)
	w.ask(0, true, "HEAD", "/")
	w.ask(0, true, "POST", "/")
	w.ask(0, false, "GET", "/")
	w.get(0, "/")
	w.get(0, "/2")
	w.forwarded(0, 5)
	// The first one that is waited for, not one that waits.
	w.get(0, "/")
	w.forwarded(0, 5)
	// One that has a head is not waited for any more.
	w.up[0].c.Head(7, asRows(list(":status", "200")), false)
	w.pump()
	w.get(0, "/")
	w.forwarded(0, 6)
}

func TestP26_4StoredEntries(t *testing.T) {
	w := newWorld(t, config())
	w.open(0)
	w.get(0, "/")
	w.tell(0, 1, "hi", true, ":status", "200", "cache-control", "max-age=5", "etag", `"x"`, "content-type", "t", "age", "2", "set-cookie", "c")
	w.do(api.Act{Kind: api.PClock, Size: 2})
	served := []string{":status", "200", "cache-control", "max-age=5", "etag", `"x"`, "content-type", "t", "set-cookie", "c", "age", "4", "via", "2 reservoir"}
	w.has(0, w.get(0, "/"), "hi", served...)
	w.has(0, w.get(0, "/", "if-none-match", `"y"`), "hi", served...)
	w.has(0, w.get(0, "/", "if-none-match", `"y", W/"x"`), "", ":status", "304", "cache-control", "max-age=5", "etag", `"x"`, "set-cookie", "c", "age", "4", "via", "2 reservoir")
	w.has(0, w.get(0, "/", "cache-control", "max-age=1, only-if-cached"), "", own("504")...)
	w.has(0, w.get(0, "/2", "cache-control", "only-if-cached"), "", own("504")...)
	w.forwarded(0, 1)
	// Other methods are forwarded.
	w.ask(0, true, "HEAD", "/")
	w.forwarded(0, 2)
}

func TestP26_4RowsOfHeads(t *testing.T) {
	// How rows are written is seen in the bytes: age is never put into the table.
	w := newWorld(t, config())
	w.open(0)
	w.manual = true
	w.get(0, "/", "cookie", "c", "authorization", "d", "age", "7", "x", "y")
	w.carry(w.down[0], 0, api.PBytes, api.PRoom, lots)
	d := w.do(api.Act{Kind: api.PUpRoom, Size: lots})
	for _, want := range [][]byte{{0x1f, 0x11, 1, 'c'}, {0x1f, 0x08, 1, 'd'}, {0x0f, 0x06, 1, '7'}, {0x40, 1, 'x', 1, 'y'}} {
		if !bytes.Contains(d.Bytes, want) {
			t.Errorf("% x is not in % x", want, d.Bytes)
		}
	}
	w.up[0].events(w.up[0].c.Feed(d.Bytes))
	w.tell(0, 1, "", true, ":status", "200", "set-cookie", "c", "age", "8", "cache-control", "public")
	w.carry(w.up[0], 0, api.PUpBytes, api.PUpRoom, lots)
	d = w.do(api.Act{Kind: api.PRoom, Size: lots})
	for _, want := range [][]byte{{0x1f, 0x28, 1, 'c'}, {0x0f, 0x06, 1, '8'}} {
		if !bytes.Contains(d.Bytes, want) {
			t.Errorf("% x is not in % x", want, d.Bytes)
		}
	}
}

func TestP26_4Validation(t *testing.T) {
	w := newWorld(t, config())
	w.open(0)
	w.get(0, "/")
	w.tell(0, 1, "hi", true, ":status", "200", "cache-control", "max-age=5", "etag", `"x"`, "b", "1")
	w.do(api.Act{Kind: api.PClock, Size: 6})
	id := w.get(0, "/", "te", "trailers", "q", "r")
	w.asked(0, 3, "", true, plain("/", "q", "r", "if-none-match", `"x"`)...)
	// Others don't wait for it: they validate themselves.
	w.get(0, "/")
	w.forwarded(0, 3)
	w.do(api.Act{Kind: api.PClock, Size: 8})
	w.tell(0, 3, "", true, ":status", "304", "b", "2", "cache-control", "max-age=7")
	w.has(0, id, "hi", ":status", "200", "etag", `"x"`, "b", "2", "cache-control", "max-age=7", "age", "2", "via", "2 reservoir")
	w.has(0, w.get(0, "/"), "hi", ":status", "200", "etag", `"x"`, "b", "2", "cache-control", "max-age=7", "age", "2", "via", "2 reservoir")
	// Nothing is paid that the origin didn't send.
	if got, given := w.up[0].balance(false); got != given || got != 2 {
		t.Error(got, given)
	}
	// Another status replaces the entry.
	w.tell(0, 5, "new", true, ":status", "200", "cache-control", "max-age=9")
	w.has(0, w.get(0, "/"), "new", ":status", "200", "cache-control", "max-age=9", "age", "2", "via", "2 reservoir")
	w.forwarded(0, 3)
}

func TestP26_4ValidationEndsEarly(t *testing.T) {
	// A 304 whose stream goes on is cancelled; one for a request of its own
	// conditions is passed on.
	w := newWorld(t, config())
	w.open(0)
	w.get(0, "/")
	w.tell(0, 1, "hi", true, ":status", "200", "cache-control", "max-age=0", "etag", `"x"`)
	id := w.get(0, "/", "if-none-match", `"x"`)
	w.tell(0, 3, "", false, ":status", "304")
	w.cancelled(0, 3, api.Cancel)
	w.has(0, id, "", ":status", "304", "cache-control", "max-age=0", "etag", `"x"`, "age", "0", "via", "2 reservoir")
	id = w.get(0, "/other", "if-none-match", `"z"`)
	w.tell(0, 5, "", true, ":status", "304", "etag", `"z"`)
	w.has(0, id, "", ":status", "304", "etag", `"z"`, "via", "2 reservoir")
	// Stale, without a validator: forwarded as it is.
	w.get(0, "/plain")
	w.tell(0, 7, "hi", true, ":status", "200", "cache-control", "max-age=0")
	w.get(0, "/plain", "if-none-match", `"q"`)
	w.asked(0, 9, "", true, plain("/plain", "if-none-match", `"q"`)...)
	if w.p.Under() != 1 {
		t.Error(w.p.Under())
	}
}

func TestP26_4Vary(t *testing.T) {
	w := newWorld(t, config())
	w.open(0)
	x := w.get(0, "/", "accept", "x")
	y := w.get(0, "/", "accept", "y")
	x2 := w.get(0, "/", "accept", "x")
	w.forwarded(0, 1)
	w.tell(0, 1, "", false, ":status", "200", "vary", "accept", "cache-control", "max-age=9")
	w.forwarded(0, 2)
	w.asked(0, 3, "", true, plain("/", "accept", "y")...)
	w.more(0, 1, "for x", true)
	w.tell(0, 3, "for y", true, ":status", "200", "vary", "accept", "cache-control", "max-age=9")
	head := []string{":status", "200", "vary", "accept", "cache-control", "max-age=9", "via", "2 reservoir"}
	stored := []string{":status", "200", "vary", "accept", "cache-control", "max-age=9", "age", "0", "via", "2 reservoir"}
	w.has(0, x, "for x", head...)
	w.has(0, y, "for y", head...)
	w.has(0, x2, "for x", stored...)
	w.has(0, w.get(0, "/", "accept", "y"), "for y", stored...)
	if n, _ := w.p.Stored(); n != 2 {
		t.Error(n)
	}
}

func TestP26_5Ups(t *testing.T) {
	cfg := config()
	cfg.Ups = 2
	w := newWorld(t, cfg)
	w.open(0)
	ask := func(authority string) int {
		id, _ := w.down[0].c.Start(asRows(list(":method", "GET", ":scheme", "https", ":authority", authority, ":path", "/")), true)
		w.pump()
		return id
	}
	ask("a")
	ask("b")
	ask("a")
	w.has(0, ask("c"), "", own("503")...)
	if !slices.Equal(w.dials, []api.Dial{{N: 0, Authority: "a"}, {N: 1, Authority: "b"}}) {
		t.Error(w.dials)
	}
	w.forwarded(0, 1)
	w.cut(0)
	w.has(0, 1, "", own("502")...)
	// The one that waited for it goes on with a connection of its own.
	if len(w.dials) != 3 || w.dials[2] != (api.Dial{N: 0, Authority: "a"}) {
		t.Error(w.dials)
	}
	w.forwarded(0, 1)
}

func TestP26_5DeadOrGoneOrigins(t *testing.T) {
	w := newWorld(t, config())
	w.open(0)
	a, b, c := w.get(0, "/1"), w.get(0, "/2"), w.get(0, "/3")
	// GOAWAY with the last stream 3: the third one fails, and no more begin.
	w.do(api.Act{Kind: api.PUpBytes, Bytes: frame.Put(nil, api.Frame{Type: api.TGoAway, Payload: []byte{0, 0, 0, 3, 0, 0, 0, 0}})})
	w.pump()
	w.has(0, c, "", own("502")...)
	w.has(0, w.get(0, "/4"), "", own("502")...)
	w.tell(0, 3, "hi", true, ":status", "200")
	w.has(0, b, "hi", ":status", "200", "via", "2 reservoir")
	w.isQuiet(0, a)
	// A connection error: the rest fails.
	w.do(api.Act{Kind: api.PUpBytes, Bytes: frame.Put(nil, api.Frame{Type: api.TPing, Payload: []byte{0}})})
	w.pump()
	w.has(0, a, "", own("502")...)
	w.has(0, w.get(0, "/5"), "", own("502")...)
	w.cut(0)
	w.get(0, "/6")
	if len(w.dials) != 2 || w.p.Under() != 1 {
		t.Error(w.dials)
	}
}

func TestP26_5RefusedWhileOthersWait(t *testing.T) {
	w := newWorld(t, config())
	w.open(0)
	w.open(1)
	w.manual = true
	w.get(0, "/1")
	w.carry(w.down[0], 0, api.PBytes, api.PRoom, lots)
	w.up[0].c, _ = conn.New(true, api.Config{Streams: 1, Window: 65535, List: 65536})
	w.manual = false
	w.pump()
	// Two are to be forwarded; two wait for them; one of the former is alone.
	a, b := w.get(0, "/2"), w.get(1, "/2")
	c, d := w.get(0, "/3"), w.get(1, "/3")
	w.down[0].c.Reset(c, api.Cancel)
	w.pump()
	if w.p.Under() != 5 {
		t.Error(w.p.Under())
	}
	w.do(api.Act{Kind: api.PUpBytes, Bytes: frame.Put(nil, api.Frame{Type: api.TGoAway, Payload: []byte{0, 0, 0, 1, 0, 0, 0, 0}})})
	if w.p.Under() != 1 {
		t.Error(w.p.Under())
	}
	w.pump()
	w.has(0, a, "", own("502")...)
	w.has(1, b, "", own("502")...)
	w.has(1, d, "", own("502")...)
	w.isQuiet(0, c)
}

func TestP26_5AnsweredOnce(t *testing.T) {
	// A refused transaction whose answer can't go yet stays refused.
	cfg := config()
	cfg.Ups = 1
	w := newWorld(t, cfg)
	s := w.open(0)
	other := w.open(1)
	w.get(1, "/")
	id, _ := s.c.Start(asRows(list(":method", "GET", ":scheme", "https", ":authority", "b", ":path", "/")), true)
	b := bytes.Repeat(frame.Put(nil, api.Frame{Type: api.TPing, Payload: make([]byte, 8)}), api.MaxQueue/2/17+1)
	b = append(b, s.c.Out(lots)...)
	s.moves = append(s.moves, api.Move{Bytes: b})
	w.do(api.Act{Kind: api.PBytes, Bytes: b})
	if w.p.Under() != 2 || len(w.dials) != 1 {
		t.Error(w.p.Under(), w.dials)
	}
	w.cut(0)
	w.has(0, id, "", own("503")...)
	if len(w.dials) != 1 || other.on[1].fields[0].Value != "502" {
		t.Error(w.dials)
	}
	w.balanced()
}

func TestP26_2And5AtOnce(t *testing.T) {
	// One action does all that can be done by it.
	w := newWorld(t, config())
	s := w.open(0)
	w.get(0, "/")
	if !w.up[0].on[1].atOnce {
		t.Error("the end comes with the head")
	}
	w.up[0].c.Head(1, asRows(list(":status", "204")), true)
	w.do(api.Act{Kind: api.PUpBytes, Bytes: w.up[0].c.Out(lots)})
	if down, _ := w.p.Waiting(); w.p.Under() != 0 || down[0] == 0 {
		t.Error(w.p.Under(), down)
	}
	s.events(s.c.Feed(w.do(api.Act{Kind: api.PRoom, Size: lots}).Bytes))
	if h := s.on[1]; h == nil || !h.atOnce || h.fields[0].Value != "204" {
		t.Error(h)
	}
	// A served entry without content, too; and an answer of its own.
	w.get(0, "/")
	if h := s.on[w.get(0, "/x", "cache-control", "only-if-cached")]; !h.atOnce {
		t.Error(h)
	}
}

func TestP26_2RoomIsUsed(t *testing.T) {
	// The room that PRoom makes is used in the same action.
	cfg := config()
	cfg.Conn.Window = 1 << 20
	cfg.Budget = 0
	w := newWorld(t, cfg)
	s := w.open(0)
	w.pump()
	s.c.Credit(99, 1<<20-70000)
	id := w.get(0, "/")
	w.manual = true
	w.tell(0, 1, "", false, ":status", "200")
	for range 3 {
		w.more(0, 1, repeat("x", 60000), false)
		w.carry(w.up[0], 0, api.PUpBytes, api.PUpRoom, lots)
	}
	before, _ := w.p.Waiting()
	d := w.do(api.Act{Kind: api.PRoom, Size: lots})
	after, _ := w.p.Waiting()
	s.moves = append(s.moves, api.Move{Said: true, Bytes: d.Bytes})
	s.events(s.c.Feed(d.Bytes))
	if len(d.Bytes) != before[0] || before[0] < api.MaxQueue/2 || after[0] < 40000 {
		t.Error(len(d.Bytes), before, after)
	}
	w.manual = false
	w.more(0, 1, "", true)
	if h := s.on[id]; len(h.body) != 180000 || !h.end {
		t.Error(len(h.body))
	}
	w.balanced()
}

func TestP26_5HeadsThatDoNotFit(t *testing.T) {
	cfg := config()
	cfg.Conn.List = api.MaxList
	w := newWorld(t, cfg)
	w.open(0)
	// With via it is too large by one byte; then just not.
	size := api.MaxBlock/2 - 6*32 - len(":methodGET:schemehttps:authoritya:path/viaxx2 reservoir")
	w.has(0, w.get(0, "/", "xx", repeat("y", size+1)), "", own("502")...)
	w.forwarded(0, 0)
	w.get(0, "/", "xx", repeat("y", size))
	w.forwarded(0, 1)
	// Likewise a response.
	size = api.MaxBlock/2 - 3*32 - len(":status200viaxx2 reservoir")
	first := w.get(0, "/2")
	w.tell(0, 3, "hi", true, ":status", "200", "xx", repeat("y", size+1))
	w.isReset(0, first, api.Internal)
	second := w.get(0, "/3")
	w.tell(0, 5, "hi", true, ":status", "200", "xx", repeat("y", size))
	w.has(0, second, "hi", ":status", "200", "xx", repeat("y", size), "via", "2 reservoir")
	// Not the whole of it was heard: the origin's stream is cancelled.
	third := w.get(0, "/4")
	w.tell(0, 7, "hi", false, ":status", "200", "xx", repeat("y", size+1))
	w.isReset(0, third, api.Internal)
	w.cancelled(0, 7, api.Cancel)
	if w.p.Under() != 1 {
		t.Error(w.p.Under())
	}
}

func TestP26_5StreamsOfAnOrigin(t *testing.T) {
	// The origin allows one stream: the others remain to be forwarded.
	w := newWorld(t, config())
	w.open(0)
	w.manual = true
	w.get(0, "/1")
	w.carry(w.down[0], 0, api.PBytes, api.PRoom, lots)
	c, _ := conn.New(true, api.Config{Streams: 1, Window: 65535, List: 65536})
	w.up[0].c = c
	w.manual = false
	w.pump()
	w.get(0, "/2")
	w.get(0, "/3")
	w.forwarded(0, 1)
	w.do(api.Act{Kind: api.PClock, Size: 10})
	w.tell(0, 1, "hi", true, ":status", "200")
	w.forwarded(0, 2)
	w.tell(0, 3, "hi", true, ":status", "200", "cache-control", "max-age=50")
	w.forwarded(0, 3)
	// It was asked when it was forwarded.
	w.has(0, w.get(0, "/2"), "hi", ":status", "200", "cache-control", "max-age=50", "age", "0", "via", "2 reservoir")
}

func TestP26_5EarlyAnswers(t *testing.T) {
	w := newWorld(t, config())
	s := w.open(0)
	id := w.ask(0, false, "POST", "/")
	w.tell(0, 1, "no", true, ":status", "413")
	// The end goes before the reset of what the request still has.
	h := s.on[id]
	if h.body != "no" || !h.end || !h.reset || h.code != api.NoError {
		t.Error(h)
	}
	w.cancelled(0, 1, api.Cancel)
	// The request is complete, but not sent: the origin's window is used up.
	w.up[0].mean = true
	id = w.ask(0, false, "POST", "/")
	s.c.Data(id, repeat("x", 60000), false)
	w.pump()
	id2 := w.ask(0, false, "POST", "/2")
	s.c.Data(id2, repeat("x", 10000), true)
	w.pump()
	w.tell(0, 5, "no", true, ":status", "413")
	w.has(0, id2, "no", ":status", "413", "via", "2 reservoir")
	w.cancelled(0, 5, api.Cancel)
	if w.p.Under() != 1 {
		t.Error(w.p.Under())
	}
}

func TestP26_5SlowClients(t *testing.T) {
	// A client that gives no credit stops the origin; nothing is lost.
	w := newWorld(t, config())
	s := w.open(0)
	s.mean = true
	id := w.get(0, "/")
	w.up[0].c.Head(1, asRows(list(":status", "200")), false)
	text, sent := repeat("0123456789", 20000), 0
	for range 50 {
		n, _ := w.up[0].c.Data(1, text[sent:], true)
		sent += n
		w.pump()
	}
	if h := s.on[id]; len(h.body) != 65535 || sent != 2*65535 {
		t.Error(len(h.body), sent)
	}
	s.mean = false
	s.c.Credit(id, 65535)
	for range 50 {
		w.pump()
		if sent < len(text) {
			n, _ := w.up[0].c.Data(1, text[sent:], true)
			sent += n
		}
	}
	w.has(0, id, text, ":status", "200", "via", "2 reservoir")
}

func TestP26_6MalformedResponses(t *testing.T) {
	for i, l := range [][]string{{":status", "101"}, {"a", "b"}, {":status", "200", "X", "y"}, {":status", "200", "content-length", "x"}, {":status", "200", "connection", "close"}} {
		w := newWorld(t, config())
		w.open(0)
		id := w.get(0, "/")
		w.tell(0, 1, "", false, l...)
		w.has(0, id, "", own("502")...)
		w.cancelled(0, 1, api.Protocol)
		if w.p.Under() != 0 {
			t.Error(i)
		}
	}
	w := newWorld(t, config())
	w.open(0)
	id := w.get(0, "/")
	w.tell(0, 1, "", true, ":status", "100")
	w.has(0, id, "", own("502")...)
}

func TestP26_6InterimResponses(t *testing.T) {
	w := newWorld(t, config())
	w.open(0)
	id := w.get(0, "/")
	w.do(api.Act{Kind: api.PUpBytes, Bytes: w.up[0].c.Out(lots)})
	var b []byte
	for range 2 {
		b = frame.Put(b, api.Frame{Type: api.THeaders, Flags: api.FFields, Stream: 1, Payload: append([]byte{0x08, 3}, "103"...)})
	}
	w.do(api.Act{Kind: api.PUpBytes, Bytes: b})
	w.pump()
	w.isQuiet(0, id)
	w.tell(0, 1, "hi", true, ":status", "200")
	w.has(0, id, "hi", ":status", "200", "via", "2 reservoir")
}

func TestP26_6Clears(t *testing.T) {
	for _, c := range []struct {
		method, status string
		left           int
	}{{"POST", "200", 0}, {"DELETE", "302", 0}, {"PUT", "404", 1}, {"POST", "500", 1}, {"HEAD", "200", 1}, {"OPTIONS", "200", 1}} {
		w := newWorld(t, config())
		w.open(0)
		w.get(0, "/")
		w.tell(0, 1, "hi", true, ":status", "200", "cache-control", "max-age=9")
		w.get(0, "/2")
		w.tell(0, 3, "hi", true, ":status", "200", "cache-control", "max-age=9")
		w.ask(0, true, c.method, "/")
		w.tell(0, 5, "", true, ":status", c.status)
		if n, _ := w.p.Stored(); n != c.left+1 {
			t.Error(c, n)
		}
		w.get(0, "/2")
		w.forwarded(0, 3)
	}
}

func TestP26_6WhatIsNotKept(t *testing.T) {
	for i, c := range []struct {
		method string
		asked  []string
		told   []string
		body   string
		kept   int
	}{
		{"GET", nil, []string{":status", "200"}, "hi", 1},
		{"GET", nil, []string{":status", "200", "cache-control", "no-store"}, "hi", 0},
		{"GET", nil, []string{":status", "200", "cache-control", "private"}, "hi", 0},
		{"GET", []string{"cache-control", "no-store"}, []string{":status", "200"}, "hi", 0},
		{"GET", nil, []string{":status", "302"}, "hi", 0},
		{"GET", nil, []string{":status", "200", "vary", "*"}, "hi", 0},
		{"POST", nil, []string{":status", "200", "cache-control", "max-age=9"}, "hi", 0},
		{"GET", nil, []string{":status", "200"}, repeat("x", 10000-110), 1},
		{"GET", nil, []string{":status", "200"}, repeat("x", 10001-110), 0},
		{"GET", []string{"te", "trailers"}, []string{":status", "200"}, repeat("x", 10000-110-10), 1},
		{"GET", []string{"te", "trailers"}, []string{":status", "200"}, repeat("x", 10001-110-10), 0},
	} {
		w := newWorld(t, config())
		w.open(0)
		id := w.ask(0, true, c.method, "/", c.asked...)
		w.tell(0, 1, c.body, true, c.told...)
		w.has(0, id, c.body, append(slices.Clone(c.told), "via", "2 reservoir")...)
		if n, _ := w.p.Stored(); n != c.kept || w.p.Under() != 0 {
			t.Error(i, n)
		}
	}
	// A GET whose content was not complete at the head.
	w := newWorld(t, config())
	s := w.open(0)
	id := w.ask(0, false, "GET", "/")
	w.tell(0, 1, "", false, ":status", "200")
	s.c.Data(id, "", true)
	w.pump()
	w.more(0, 1, "hi", true)
	if n, _ := w.p.Stored(); n != 0 {
		t.Error(n)
	}
}

func TestP26_6ReviewWhileWaiting(t *testing.T) {
	// A response that can't be stored: those that wait are forwarded at its head.
	w := newWorld(t, config())
	w.open(0)
	w.get(0, "/")
	w.get(0, "/")
	w.get(0, "/")
	w.tell(0, 1, "", false, ":status", "200", "cache-control", "no-store")
	w.forwarded(0, 3)
	// One that gets too large: when it does.
	w.get(0, "/2")
	w.get(0, "/2")
	w.tell(0, 7, repeat("x", 9000), false, ":status", "200")
	w.forwarded(0, 4)
	w.more(0, 7, repeat("x", 1000), false)
	w.forwarded(0, 5)
	// One whose head alone is too large.
	w.get(0, "/3")
	w.get(0, "/3")
	w.forwarded(0, 6)
	w.tell(0, 11, "", false, ":status", "200", "x", repeat("y", 10000))
	w.forwarded(0, 7)
}

func TestP26_6Lengths(t *testing.T) {
	for i, c := range []struct {
		method, status, length, body string
		good                         bool
	}{
		{"GET", "200", "0", "hi", false}, {"GET", "200", "2", "hi", true}, {"GET", "200", "0", "", true}, {"GET", "200", "3", "hi", false}, {"GET", "200", "1", "hi", false}, {"GET", "200", "5", "", false},
		{"HEAD", "200", "5", "", true}, {"HEAD", "200", "5", "hi", false}, {"GET", "204", "5", "", true}, {"GET", "304", "5", "", true}, {"GET", "304", "5", "hi", false}, {"POST", "404", "5", "", false},
	} {
		w := newWorld(t, config())
		w.open(0)
		id := w.ask(0, true, c.method, "/")
		waits := 0
		if c.method == "GET" {
			waits = w.get(0, "/")
		}
		w.tell(0, 1, c.body, true, ":status", c.status, "content-length", c.length)
		if c.good {
			w.has(0, id, c.body, ":status", c.status, "content-length", c.length, "via", "2 reservoir")
		} else {
			w.isReset(0, id, api.Internal)
			n, _ := w.p.Stored()
			if n != 0 || waits > 0 && (len(w.up[0].on) != 2 || w.p.Under() != 1) {
				t.Error(i, n, w.p.Under())
			}
		}
	}
}

func TestP26_6WrongLengthsAreCancelled(t *testing.T) {
	// The origin still waits for the rest of the request.
	w := newWorld(t, config())
	w.open(0)
	id := w.ask(0, false, "POST", "/")
	w.tell(0, 1, "hi", true, ":status", "200", "content-length", "3")
	w.isReset(0, id, api.Internal)
	w.cancelled(0, 1, api.Cancel)
	// What the client hasn't got is returned once.
	w.down[0].mean = true
	id = w.get(0, "/")
	w.tell(0, 3, repeat("x", 65000), false, ":status", "200", "content-length", "70000")
	w.get(0, "/2")
	w.tell(0, 5, repeat("x", 10000), false, ":status", "200", "content-length", "70000")
	w.more(0, 5, "", true)
	w.isReset(0, 5, api.Internal)
	w.more(0, 3, "", true)
	w.isReset(0, id, api.Internal)
	w.balanced()
}

func TestP26_6WhatIsPaid(t *testing.T) {
	// A client that gives up, one that is reset, and one that leaves, while
	// content is pending.
	text := repeat("x", 40000)
	for i := range 5 {
		cfg := config()
		cfg.Budget = 100000
		w := newWorld(t, cfg)
		s := w.open(0)
		s.mean = true
		a := w.get(0, "/1")
		w.tell(0, 1, text, false, ":status", "200")
		b := w.get(0, "/2")
		w.tell(0, 3, text, false, ":status", "200")
		switch i {
		case 0:
			s.c.Reset(a, api.Cancel)
			s.c.Reset(b, api.Cancel)
		case 1:
			w.up[0].c.Reset(1, api.Internal)
			w.up[0].c.Reset(3, api.Internal)
		case 2:
			w.leave(0)
		case 3:
			// Complete, but not sent; then the origin resets nothing, and leaves.
			w.more(0, 1, "", true)
			w.more(0, 3, "", true)
			s.mean = false
			s.c.Credit(b, 40000)
		case 4:
			w.open(1)
			c := w.get(0, "/3")
			w.get(1, "/3")
			w.tell(0, 5, text, false, ":status", "200", "cache-control", "max-age=3")
			s.c.Reset(a, api.Cancel)
			s.c.Reset(b, api.Cancel)
			s.c.Reset(c, api.Cancel)
			w.pump()
			w.more(0, 5, text, true)
		}
		w.pump()
		w.balanced()
	}
}

func TestP26_6ResetBehindTheEnd(t *testing.T) {
	// The origin answers early, and resets what it does not want to hear: the
	// response is whole, and its content is paid once.
	w := newWorld(t, config())
	s := w.open(0)
	s.mean = true
	w.get(0, "/")
	w.tell(0, 1, repeat("x", 60000), true, ":status", "200")
	id := w.ask(0, false, "POST", "/")
	w.tell(0, 3, repeat("y", 30000), true, ":status", "413")
	w.up[0].c.Reset(3, api.NoError)
	w.pump()
	if w.p.Under() != 1 {
		t.Error(w.p.Under())
	}
	s.mean = false
	s.c.Credit(99, 60000)
	w.pump()
	if h := s.on[id]; len(h.body) != 30000 || !h.end || !h.reset || h.code != api.NoError {
		t.Error(len(h.body), h.end, h.reset)
	}
	w.balanced()
}

func TestP26_6Hop(t *testing.T) {
	w := newWorld(t, config())
	w.open(0)
	id := w.get(0, "/", "te", "trailers", "a", "b")
	w.asked(0, 1, "", true, plain("/", "a", "b")...)
	w.tell(0, 1, "hi", true, ":status", "200", "te", "trailers", "cache-control", "max-age=5", "c", "d")
	w.has(0, id, "hi", ":status", "200", "cache-control", "max-age=5", "c", "d", "via", "2 reservoir")
	w.has(0, w.get(0, "/"), "hi", ":status", "200", "cache-control", "max-age=5", "c", "d", "age", "0", "via", "2 reservoir")
	// The request is stored as it came.
	if _, size := w.p.Stored(); size != 100+len("https://a/tetrailersabcache-controlmax-age=5cdhi") {
		t.Error(size)
	}
}

func TestP26_6TrailersOfAResponse(t *testing.T) {
	w := newWorld(t, config())
	w.open(0)
	id := w.get(0, "/")
	w.tell(0, 1, "hi", false, ":status", "200", "cache-control", "max-age=3")
	w.up[0].c.Head(1, asRows(list("t", "u")), true)
	w.pump()
	w.has(0, id, "hi", ":status", "200", "cache-control", "max-age=3", "via", "2 reservoir")
	if n, _ := w.p.Stored(); n != 1 {
		t.Error(n)
	}
}

func TestP26_6Fails(t *testing.T) {
	w := newWorld(t, config())
	w.open(0)
	// Before its head, after it, and after its end.
	a, b, c := w.get(0, "/1"), w.get(0, "/2"), w.get(0, "/3")
	d := w.get(0, "/2")
	w.up[0].c.Reset(1, api.Internal)
	w.pump()
	w.has(0, a, "", own("502")...)
	w.tell(0, 3, "hi", false, ":status", "200")
	w.up[0].c.Reset(3, api.Internal)
	w.pump()
	w.isReset(0, b, api.Internal)
	w.asked(0, 7, "", true, plain("/2")...)
	w.isQuiet(0, d)
	w.tell(0, 5, "ho", true, ":status", "200")
	w.has(0, c, "ho", ":status", "200", "via", "2 reservoir")
	// A whole response of a stopped client goes on without the connection.
	w.down[0].mean = true
	text := repeat("x", 65000)
	e := w.get(0, "/4")
	w.tell(0, 9, text[:60000], false, ":status", "200")
	f := w.get(0, "/5")
	w.tell(0, 11, text[:9000], true, ":status", "200")
	w.cut(0)
	w.isReset(0, e, api.Internal)
	w.down[0].mean = false
	w.down[0].c.Credit(99, 60000)
	w.pump()
	w.has(0, f, text[:9000], ":status", "200", "via", "2 reservoir")
}

func TestP26_6CompletesAlone(t *testing.T) {
	w := newWorld(t, config())
	w.open(0)
	w.open(1)
	a, b := w.get(0, "/"), w.get(1, "/")
	w.tell(0, 1, "h", false, ":status", "200", "cache-control", "max-age=3")
	w.down[0].c.Reset(a, api.Cancel)
	w.pump()
	c := w.get(1, "/")
	w.forwarded(0, 2)
	w.more(0, 1, "i", true)
	w.has(1, b, "hi", ":status", "200", "cache-control", "max-age=3", "age", "0", "via", "2 reservoir")
	w.isQuiet(1, c)
	if w.p.Under() != 1 {
		t.Error(w.p.Under())
	}
}

func TestP26_6AgesAndDates(t *testing.T) {
	w := newWorld(t, config())
	w.open(0)
	w.do(api.Act{Kind: api.PClock, Size: 1000000})
	w.get(0, "/")
	w.do(api.Act{Kind: api.PClock, Size: 1000010})
	w.tell(0, 1, "hi", true, ":status", "200", "last-modified", day.Show(999910))
	head := []string{":status", "200", "last-modified", day.Show(999910)}
	// A tenth of 100 seconds, of which 10 went by on the way.
	for now, forwarded := range map[int]int{1000010: 1} {
		w.do(api.Act{Kind: api.PClock, Size: now})
		id := w.get(0, "/", "cache-control", "max-stale=0")
		w.forwarded(0, forwarded)
		w.has(0, id, "hi", append(slices.Clone(head), "age", "10", "via", "2 reservoir")...)
	}
	w.get(0, "/")
	w.asked(0, 3, "", true, plain("/", "if-modified-since", day.Show(999910))...)
}

func TestP26_8Queues(t *testing.T) {
	// Clients and an origin that read nothing: the queues stay within bounds.
	cfg := config()
	cfg.Trans = 60
	w := newWorld(t, cfg)
	w.manual = true
	send := func(n int, b []byte) {
		w.down[n].moves = append(w.down[n].moves, api.Move{Bytes: b})
		w.do(api.Act{Kind: api.PBytes, N: n, Bytes: b})
	}
	for n := range 6 {
		w.open(n)
		for i := range 9 {
			w.get(n, "/"+strconv.Itoa(n)+"/"+strconv.Itoa(i), "x", repeat("y", 9000))
		}
		send(n, w.down[n].c.Out(lots))
	}
	if w.p.Under() != 54 {
		t.Error(w.p.Under())
	}
	ping := frame.Put(nil, api.Frame{Type: api.TPing, Payload: make([]byte, 8)})
	for range 500 {
		send(0, bytes.Repeat(ping, 100))
	}
	down, up := w.p.Waiting()
	for _, n := range append(down, up...) {
		if n > api.MaxQueue+17 {
			t.Error(down, up)
		}
	}
	// The client that died has lost its transactions.
	if w.p.Under() != 45 || up[0] < api.MaxQueue/4 || up[0] > api.MaxQueue {
		t.Error(w.p.Under(), up)
	}
	w.pump()
}
