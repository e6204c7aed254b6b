package proxy

import (
	"slices"
	"strings"
	"testing"

	"reservoir/api"
	"reservoir/conn"
	"reservoir/frame"
	"reservoir/peer"
)

const lots = api.MaxQueue + 100

func config() api.Cache {
	return api.Cache{Budget: 10000, Share: 0.1, Conn: api.Config{Streams: 10, Window: 65535, List: 65536}, Trans: 8, Ups: 2}
}

// heard is what an end of a connection heard on a stream.
type heard struct {
	fields     []api.Field
	heads      int
	body       string
	end, reset bool
	// atOnce: the end came with the head.
	atOnce bool
	code   api.Code
}

// side is the other end of one of the proxy's connections.
type side struct {
	c     *conn.Conn
	on    map[int]*heard
	moves []api.Move
	lost  bool
	// mean: no credit is given for what is heard.
	mean bool
}

// world is a proxy with clients and origins around it.
type world struct {
	t         *testing.T
	p         *Proxy
	cfg       api.Cache
	down, up  map[int]*side
	dials     []api.Dial
	manual    bool
	authority map[int]string
}

func newWorld(t *testing.T, cfg api.Cache) *world {
	t.Helper()
	p, no := New(cfg)
	if no != api.OK {
		t.Fatal(no)
	}
	return &world{t: t, p: p, cfg: cfg, down: map[int]*side{}, up: map[int]*side{}, authority: map[int]string{}}
}

func (w *world) do(a api.Act) api.Done {
	d := w.p.Do(a)
	for _, x := range d.Dials {
		c, _ := conn.New(true, w.cfg.Conn)
		w.up[x.N] = &side{c: c, on: map[int]*heard{}}
		w.authority[x.N] = x.Authority
	}
	w.dials = append(w.dials, d.Dials...)
	return d
}

// balance returns how many bytes of DATA the proxy got from a side, and how
// many it has returned to the connection.
func (s *side) balance(server bool) (int, int) {
	in, _ := frame.New(api.MinFrame, server)
	out, _ := frame.New(api.MinFrame, !server)
	got, given := 0, 0
	for _, m := range s.moves {
		if m.Said {
			l, _ := out.Feed(m.Bytes)
			for _, f := range l {
				if f.Type == api.TWindow && f.Stream == 0 {
					given += int(f.Payload[0])<<24 | int(f.Payload[1])<<16 | int(f.Payload[2])<<8 | int(f.Payload[3])
				}
			}
			continue
		}
		l, _ := in.Feed(m.Bytes)
		for _, f := range l {
			if f.Type == api.TData {
				got += len(f.Payload)
			}
		}
	}
	return got, given
}

// balanced checks that every byte of content was returned once, of all
// connections that live; nothing must be under way.
func (w *world) balanced() {
	w.t.Helper()
	if w.p.Under() > 0 {
		w.t.Error("under", w.p.Under())
	}
	for n, s := range w.down {
		if got, given := s.balance(true); got != given && !w.p.downs[n].Dead() {
			w.t.Error("client", n, got, given)
		}
	}
	for n, s := range w.up {
		if got, given := s.balance(false); got != given && !w.p.ups[n].conn.Dead() {
			w.t.Error("origin", n, got, given)
		}
	}
}

// open makes a client at place n.
func (w *world) open(n int) *side {
	w.t.Helper()
	if !w.do(api.Act{Kind: api.POpen, N: n}).Took {
		w.t.Fatal("open", n)
	}
	c, _ := conn.New(false, w.cfg.Conn)
	w.down[n] = &side{c: c, on: map[int]*heard{}}
	return w.down[n]
}

func (s *side) events(l []api.Event) {
	for _, e := range l {
		if e.Kind == api.ELost {
			s.lost = true
			continue
		}
		if e.Kind == api.EGone {
			continue
		}
		h := s.on[e.Stream]
		if h == nil {
			h = &heard{}
			s.on[e.Stream] = h
		}
		switch e.Kind {
		case api.EHead:
			h.fields, h.end, h.atOnce = e.Fields, e.End, e.End
			h.heads++
		case api.EData:
			h.body += e.Body
			h.end = e.End
			if !s.mean && e.Body != "" {
				s.c.Credit(e.Stream, len(e.Body))
			}
		case api.ETail:
			h.end = true
		case api.EReset:
			h.reset, h.code = true, e.Code
		}
	}
}

// cut closes the connection of origin n.
func (w *world) cut(n int) {
	w.t.Helper()
	delete(w.up, n)
	if !w.do(api.Act{Kind: api.PUpClose, N: n}).Took {
		w.t.Fatal("cut", n)
	}
	w.pump()
}

// leave closes the connection of client n.
func (w *world) leave(n int) {
	w.t.Helper()
	delete(w.down, n)
	if !w.do(api.Act{Kind: api.PClose, N: n}).Took {
		w.t.Fatal("leave", n)
	}
	w.pump()
}

// carry moves bytes between the proxy and one side, and reports whether there
// were any.
func (w *world) carry(s *side, n int, in, out, size int) bool {
	b := s.c.Out(size)
	s.moves = append(s.moves, api.Move{Bytes: b})
	w.do(api.Act{Kind: in, N: n, Bytes: b})
	d := w.do(api.Act{Kind: out, N: n, Size: size})
	s.moves = append(s.moves, api.Move{Said: true, Bytes: d.Bytes})
	s.events(s.c.Feed(d.Bytes))
	return len(b)+len(d.Bytes) > 0
}

// pump carries everything until nothing moves.
func (w *world) pump() {
	for moved := true; moved; {
		moved = false
		for n := range api.MaxDown {
			if s := w.down[n]; s != nil {
				moved = w.carry(s, n, api.PBytes, api.PRoom, lots) || moved
			}
		}
		for n := range api.MaxUp {
			if s := w.up[n]; s != nil {
				moved = w.carry(s, n, api.PUpBytes, api.PUpRoom, lots) || moved
			}
		}
	}
	w.legal()
}

// legal checks what must always hold.
func (w *world) legal() {
	w.t.Helper()
	if n, size := w.p.Stored(); size > w.cfg.Budget || n*api.EntryCost > size {
		w.t.Error("stored", n, size)
	}
	if w.p.Under() > w.cfg.Trans {
		w.t.Error("under", w.p.Under())
	}
	for n, s := range w.down {
		if got := peer.Check(true, s.moves); got != -1 {
			w.t.Error("client", n, got)
		}
	}
	for n, s := range w.up {
		if got := peer.Check(false, s.moves); got != -1 {
			w.t.Error("origin", n, got)
		}
	}
}

// ask begins a request of client n, and returns its stream.
func (w *world) ask(n int, end bool, method, path string, more ...string) int {
	w.t.Helper()
	l := append(list(":method", method, ":scheme", "https", ":authority", "a", ":path", path), list(more...)...)
	id, ok := w.down[n].c.Start(asRows(l), end)
	if !ok {
		w.t.Fatal("ask")
	}
	if !w.manual {
		w.pump()
	}
	return id
}

// get is a GET of client n.
func (w *world) get(n int, path string, more ...string) int {
	w.t.Helper()
	return w.ask(n, true, "GET", path, more...)
}

// tell answers a stream of origin n.
func (w *world) tell(n, id int, body string, end bool, l ...string) {
	w.t.Helper()
	c := w.up[n].c
	if !c.Head(id, asRows(list(l...)), end && body == "") {
		w.t.Fatal("head", id)
	}
	if body != "" {
		w.more(n, id, body, end)
	}
	if !w.manual {
		w.pump()
	}
}

// more sends more content of origin n.
func (w *world) more(n, id int, body string, end bool) {
	w.t.Helper()
	if k, ok := w.up[n].c.Data(id, body, end); k != len(body) || !ok {
		w.t.Fatal("data", k, ok)
	}
	if !w.manual {
		w.pump()
	}
}

// has checks what client n heard on a stream.
func (w *world) has(n, id int, body string, l ...string) {
	w.t.Helper()
	h := w.down[n].on[id]
	if h == nil || !h.end || h.reset || h.heads != 1 || h.body != body || !slices.Equal(h.fields, list(l...)) {
		w.t.Errorf("client %d, stream %d: %+v", n, id, h)
	}
}

// isReset checks that a stream of client n was reset.
func (w *world) isReset(n, id int, code api.Code) {
	w.t.Helper()
	if h := w.down[n].on[id]; h == nil || !h.reset || h.code != code {
		w.t.Errorf("client %d, stream %d: %+v", n, id, h)
	}
}

// isQuiet checks that nothing was heard on a stream of client n.
func (w *world) isQuiet(n, id int) {
	w.t.Helper()
	if h := w.down[n].on[id]; h != nil {
		w.t.Errorf("client %d, stream %d: %+v", n, id, h)
	}
}

// asked checks the request that origin n got on a stream.
func (w *world) asked(n, id int, body string, end bool, l ...string) {
	w.t.Helper()
	h := w.up[n].on[id]
	if h == nil || h.end != end || h.reset || h.body != body || !slices.Equal(h.fields, list(l...)) {
		w.t.Errorf("origin %d, stream %d: %+v", n, id, h)
	}
}

// forwarded checks how many requests an origin got.
func (w *world) forwarded(n, want int) {
	w.t.Helper()
	got := 0
	if s := w.up[n]; s != nil {
		got = len(s.on)
	}
	if got != want {
		w.t.Error("forwarded", got)
	}
}

// cancelled checks that a stream of origin n was reset by the proxy.
func (w *world) cancelled(n, id int, code api.Code) {
	w.t.Helper()
	if h := w.up[n].on[id]; h == nil || !h.reset || h.code != code {
		w.t.Errorf("origin %d, stream %d: %+v", n, id, h)
	}
}

func list(s ...string) []api.Field {
	var l []api.Field
	for i := 0; i < len(s); i += 2 {
		l = append(l, api.Field{Name: s[i], Value: s[i+1]})
	}
	return l
}

func asRows(l []api.Field) []api.Row {
	var out []api.Row
	for _, f := range l {
		out = append(out, api.Row{Field: f, How: 1})
	}
	return out
}

// plain is the request of a GET as an origin gets it.
func plain(path string, more ...string) []string {
	return append(append([]string{":method", "GET", ":scheme", "https", ":authority", "a", ":path", path}, more...), "via", "2 reservoir")
}

// own is an answer of the proxy's own.
func own(status string) []string { return []string{":status", status, "content-length", "0"} }

func repeat(s string, n int) string { return strings.Repeat(s, n) }
