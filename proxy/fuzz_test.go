package proxy

import (
	"strconv"
	"testing"

	"reservoir/api"
	"reservoir/frame"
)

// dice is a row of numbers that look random, the same in each run.
type dice uint64

func (d *dice) roll(n int) int {
	*d = *d*6364136223846793005 + 1442695040888963407
	return int(uint64(*d)>>33) % n
}

func (d *dice) pick(l ...int) int { return l[d.roll(len(l))] }

func (d *dice) text(l ...string) string { return l[d.roll(len(l))] }

// asks begins some request.
func (d *dice) asks(s *side) {
	l := list(":method", d.text("GET", "GET", "GET", "GET", "HEAD", "POST", "DELETE"), ":scheme", "https", ":authority", d.text("a", "a", "b", "c"), ":path", d.text("/", "/", "/x"))
	switch d.roll(8) {
	case 0:
		l = append(l, list("cache-control", d.text("no-cache", "max-age=1", "max-stale", "only-if-cached", "no-store"))...)
	case 1:
		l = append(l, list("if-none-match", d.text(`"x"`, `"y"`))...)
	case 2, 3:
		l = append(l, list("accept", d.text("p", "q"))...)
	case 4:
		l = append(l, list("content-length", d.text("0", "5", "x"))...)
	}
	end := d.roll(4) > 0
	id, ok := s.c.Start(asRows(l), end)
	if ok && !end && d.roll(2) == 0 {
		s.c.Data(id, repeat("z", d.pick(0, 5, 1000, 30000)), d.roll(2) == 0)
	}
}

// answers answers some stream.
func (d *dice) answers(s *side) {
	ids, _ := s.c.Streams()
	if len(ids) == 0 {
		return
	}
	id := ids[d.roll(len(ids))]
	l := list(":status", d.text("200", "200", "200", "304", "404", "204", "103", "500", "101"))
	l = append(l, list("cache-control", d.text("max-age=5", "max-age=60", "no-store", "private", "max-age=0", "no-cache"))...)
	for _, f := range list("etag", d.text(`"x"`, `"y"`), "vary", d.text("accept", "*", "b"), "content-length", d.text("5", "0"), "age", "2", "last-modified", "Thu, 01 Jan 1970 00:00:00 GMT") {
		if d.roll(4) == 0 {
			l = append(l, f)
		}
	}
	end := d.roll(3) == 0
	if s.c.Head(id, asRows(l), end) && !end {
		s.c.Data(id, repeat("w", d.pick(0, 5, 5, 300, 3000, 20000)), d.roll(3) > 0)
	}
}

func (d *dice) goesOn(s *side) {
	ids, _ := s.c.Streams()
	if len(ids) == 0 {
		return
	}
	id := ids[d.roll(len(ids))]
	switch d.roll(12) {
	case 0:
		s.c.Reset(id, api.Code(d.roll(14)))
	case 1:
		s.c.Head(id, nil, true)
	case 2:
		s.c.Credit(id, 1+d.roll(50000))
	default:
		s.c.Data(id, repeat("v", d.pick(0, 5, 1000, 30000)), d.roll(2) == 0)
	}
}

// hostile is a frame that is wrong, or strange.
func (d *dice) hostile() []byte {
	f := api.Frame{Type: d.roll(11), Flags: d.roll(64), Stream: d.pick(0, 1, 3, 5), Payload: make([]byte, d.pick(0, 4, 5, 6, 8, 9))}
	if d.roll(2) == 0 {
		f = api.Frame{Type: api.TSettings, Payload: []byte{0, 4, 0, 0, byte(d.pick(0, 1, 255)), 10, 0, 1, 0, 0, 0, byte(d.roll(256))}}
	}
	return frame.Put(nil, f)
}

// part carries some bytes between the proxy and one side.
func (w *world) part(d *dice, n int, s *side, up bool) {
	in, out := api.PBytes, api.PRoom
	if up {
		in, out = api.PUpBytes, api.PUpRoom
	}
	b := s.c.Out(d.pick(0, 7, 50, 3000, lots))
	if d.roll(150) == 0 {
		b = append(b, d.hostile()...)
	}
	s.moves = append(s.moves, api.Move{Bytes: b})
	w.do(api.Act{Kind: in, N: n, Bytes: b})
	r := w.do(api.Act{Kind: out, N: n, Size: d.pick(0, 9, 100, 5000, lots)})
	s.moves = append(s.moves, api.Move{Said: true, Bytes: r.Bytes})
	s.events(s.c.Feed(r.Bytes))
	down, ups := w.p.Waiting()
	for _, k := range append(down, ups...) {
		if k > api.MaxQueue+17 {
			w.t.Fatal("queue", k)
		}
	}
}

// step does something.
func (w *world) step(d *dice) {
	n := d.roll(3)
	s, u := w.down[n], w.up[d.roll(w.cfg.Ups)]
	switch k := d.roll(40); {
	case k == 0 && s != nil:
		w.p.Do(api.Act{Kind: api.PClose, N: n})
		delete(w.down, n)
	case k == 1:
		for i, x := range w.up {
			if x == u {
				delete(w.up, i)
				w.do(api.Act{Kind: api.PUpClose, N: i})
				break
			}
		}
	case k == 2:
		w.do(api.Act{Kind: api.PClock, Size: w.p.Now() + d.pick(-5, 1, 3, 30)})
	case k < 12 && s == nil:
		w.open(n).mean = d.roll(5) == 0
	case k < 12:
		d.asks(s)
	case k < 18 && u != nil:
		d.answers(u)
	case k < 20 && s != nil:
		d.goesOn(s)
	case k < 22 && u != nil:
		d.goesOn(u)
	case k < 32 && s != nil:
		w.part(d, n, s, false)
	case u != nil:
		for i, x := range w.up {
			if x == u {
				w.part(d, i, u, true)
			}
		}
	}
}

// quiet lets everybody give up what is under way.
func (w *world) quiet() {
	w.pump()
	for _, l := range []map[int]*side{w.down, w.up} {
		for _, s := range l {
			ids, _ := s.c.Streams()
			for _, id := range ids {
				s.c.Reset(id, api.Cancel)
			}
		}
		w.pump()
	}
}

func TestP26_8WhateverIsReceived(t *testing.T) {
	served, reset := 0, 0
	for seed := range 300 {
		d := dice(seed)
		w := newWorld(t, api.Cache{Budget: d.pick(0, 500, 3000, 100000), Share: 0.5, Conn: api.Config{Streams: d.pick(2, 10), Window: 65535, List: 65536}, Trans: d.pick(1, 4, 20), Ups: d.pick(1, 2, 3)})
		for range 250 {
			w.step(&d)
			if n, size := w.p.Stored(); size > w.cfg.Budget || (n == 0) != (size == 0) || w.p.Under() > w.cfg.Trans {
				t.Fatal(seed, n, size, w.p.Under())
			}
		}
		w.legal()
		w.quiet()
		w.balanced()
		for _, s := range w.down {
			for _, h := range s.on {
				for _, f := range h.fields {
					if f.Name == "age" {
						served++
					}
				}
				if h.reset {
					reset++
				}
			}
		}
		if t.Failed() {
			t.Fatal("seed " + strconv.Itoa(seed))
		}
	}
	if served < 50 || reset < 100 {
		t.Error("too little happened", served, reset)
	}
}

func TestP26_8ASettingOfNoWindow(t *testing.T) {
	// The other end's windows may get less than nothing while a response is
	// sent; its end is sent all the same, and that is legal.
	w := newWorld(t, config())
	s := w.open(0)
	id := w.get(0, "/")
	w.tell(0, 1, "0123456789", false, ":status", "200")
	b := frame.Put(nil, api.Frame{Type: api.TSettings, Payload: []byte{0, 4, 0, 0, 0, 1}})
	s.moves = append(s.moves, api.Move{Bytes: b})
	w.do(api.Act{Kind: api.PBytes, Bytes: b})
	w.up[0].c.Data(1, "", true)
	w.carry(w.up[0], 0, api.PUpBytes, api.PUpRoom, lots)
	r := w.do(api.Act{Kind: api.PRoom, Size: lots})
	s.moves = append(s.moves, api.Move{Said: true, Bytes: r.Bytes})
	s.events(s.c.Feed(r.Bytes))
	w.has(0, id, "0123456789", ":status", "200", "via", "2 reservoir")
	w.legal()
}
