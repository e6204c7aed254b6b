package peer

import (
	"strings"
	"testing"

	"reservoir/api"
	"reservoir/conn"
	"reservoir/frame"
	"reservoir/pack"
)

// dice is a row of numbers that look random, the same in each run.
type dice uint64

func (d *dice) roll(n int) int {
	*d = *d*6364136223846793005 + 1442695040888963407
	return int(uint64(*d)>>33) % n
}

func (d *dice) pick(l ...int) int { return l[d.roll(len(l))] }

// other is the other end, which is mostly right.
type other struct {
	dice
	server bool
	p      *pack.Packer
	top    int
	open   int
}

// known picks a stream that has begun, or one that begins.
func (o *other) known() int {
	if o.roll(60) == 0 {
		return o.pick(0, 2, 1, 3, o.top+2)
	}
	return max(1, 2*o.roll(o.top/2+1)-1)
}

// frame makes something that the other end may send, right or wrong.
func (o *other) frame(ids []int) api.Frame {
	if o.open > 0 && o.roll(50) > 0 {
		f := fr(api.TContinuation, o.pick(4, 4, 0), o.open)
		if f.Flags == 4 {
			o.open = 0
		}
		return f
	}
	for _, id := range ids {
		o.top = max(o.top, id+1)
	}
	id := o.known()
	if len(ids) > 0 && o.roll(3) > 0 {
		id = ids[o.roll(len(ids))]
	}
	switch o.roll(14) {
	case 0, 1, 2:
		// The other end of a server begins streams.
		if !o.server && o.roll(2) == 0 {
			o.top += 2
			id = o.top - 1
		}
		return o.head(id)
	case 3, 4, 5:
		return data(id, o.pick(0, 1, 5, 100, 3000, 16384), o.roll(4) == 0)
	case 6:
		return rst(id)
	case 7:
		return settings(api.Setting{Id: o.pick(1, 3, 5, 6, 9), Value: o.pick(16384, 16385, 65535, 70000)}, api.Setting{Id: 4, Value: o.pick(0, 5, 100, 65535, 200000)})
	case 8, 9:
		return more(o.pick(0, id), o.pick(1, 100, 65535, 1<<20))
	case 10:
		return ping()
	case 11:
		return fr(api.TPriority, 0, id, make([]byte, o.pick(5, 5, 4))...)
	case 12:
		if o.roll(10) == 0 {
			return fr(o.roll(12), o.roll(64), id, make([]byte, o.roll(12))...)
		}
		return fr(api.TData, 8, id, 3, 1, 0, 0, 0)
	}
	return more(0, 1000)
}

func (o *other) head(id int) api.Frame {
	l := []api.Row{{Field: api.Field{Name: ":status", Value: []string{"100", "200", "404"}[o.roll(3)]}, How: 1 + o.roll(3)}, {Field: api.Field{Name: "a", Value: strings.Repeat("b", o.roll(60))}, How: 1}}
	flags := o.pick(0, 1, 1) | o.pick(4, 4, 4, 0)
	if flags < 4 {
		o.open = id
	}
	return fr(api.THeaders, flags, id, o.p.Block(l)...)
}

// call makes some call of c.
func (d *dice) call(c *conn.Conn) {
	id := 1 + 2*d.roll(20)
	if ids, _ := c.Streams(); len(ids) > 0 && d.roll(10) > 0 {
		id = ids[d.roll(len(ids))]
	}
	l := []api.Row{{Field: api.Field{Name: "a", Value: strings.Repeat("\x01", d.pick(0, 3, 50, 20000, 40000))}, How: 1 + d.roll(3)}}
	switch d.roll(12) {
	case 0, 1:
		c.Start(l, d.roll(2) == 0)
	case 2, 3, 4:
		c.Head(id, l, d.roll(3) == 0)
	case 5, 6, 7, 8:
		c.Data(id, strings.Repeat("x", d.pick(0, 0, 1, 200, 20000, 100000)), d.roll(3) == 0)
	case 9:
		c.Credit(id, d.pick(1, 5, 70000))
	case 10:
		if d.roll(4) == 0 {
			c.Reset(id, api.Cancel)
		}
	case 11:
		if d.roll(100) == 0 {
			c.Shut(api.NoError)
		}
	}
}

// lateEnd reports whether what is not legal in move i is an empty end of a
// stream whose window is below 0. P24.5 lets a Conn send it, and P25.3 does not
// take it for legal: of P25.4, this is what can't hold.
func lateEnd(server bool, l []api.Move, i int) bool {
	e := newEnd(server)
	for _, m := range l[:i] {
		if m.Said {
			e.say(m.Bytes)
		} else {
			e.hear(m.Bytes)
		}
	}
	list, _ := e.said.Feed(l[i].Bytes)
	for _, f := range list {
		if !e.legal(f) {
			s := e.known[f.Stream]
			return f.Type == api.TData && f.Flags == api.FEnd && len(f.Payload) == 0 && s != nil && s.window < 0
		}
	}
	return false
}

func TestP25_4WhatAConnSaysIsLegal(t *testing.T) {
	lived, bytes := 0, 0
	for seed := range 3000 {
		d := dice(seed)
		server := seed%2 == 0
		c, _ := conn.New(server, api.Config{Streams: d.pick(1, 3, 100), Window: d.pick(65535, 100000), List: 1 << 20})
		var l []api.Move
		first := []byte(nil)
		if server {
			first = []byte(frame.Preface)
		}
		if d.roll(30) > 0 {
			first = frame.Put(first, settings())
		}
		hear := func(b []byte) {
			l = append(l, api.Move{Bytes: b})
			c.Feed(b)
		}
		say := func(n int) {
			b := c.Out(n)
			bytes += len(b)
			l = append(l, api.Move{Said: true, Bytes: b})
		}
		hear(first)
		p, _ := pack.New(4096)
		o := &other{dice: d, server: !server, p: p}
		for range 60 {
			switch d.roll(5) {
			case 0, 1:
				ids, _ := c.Streams()
				b := frame.Put(nil, o.frame(ids))
				cut := d.roll(len(b) + 1)
				hear(b[:cut])
				if d.roll(3) == 0 {
					say(d.roll(100))
				}
				hear(b[cut:])
			case 2, 3:
				d.call(c)
			case 4:
				say(d.pick(0, 1, 9, 100, 20000, 1<<20))
			}
		}
		if !c.Dead() {
			lived++
		}
		say(1 << 30)
		if got := Check(server, l); got != -1 && !lateEnd(server, l, got) {
			t.Fatal("seed", seed, "move", got, "of", len(l))
		}
	}
	if lived < 300 || lived > 2500 || bytes < 1<<20 {
		t.Error(lived, bytes)
	}
}

func TestP25_3AnEndInAWindowBelow0(t *testing.T) {
	for _, c := range []struct{ window, want int }{{10, -1}, {9, 3}, {3, 3}, {0, 3}} {
		n, _ := conn.New(true, api.Config{Streams: 1, Window: 65535, List: 1000})
		var l []api.Move
		hear := func(b []byte) {
			l = append(l, api.Move{Bytes: b})
			n.Feed(b)
		}
		say := func() { l = append(l, api.Move{Said: true, Bytes: n.Out(1 << 20)}) }
		hear(frame.Put(frame.Put([]byte(frame.Preface), settings()), head(1, ended)))
		n.Head(1, nil, false)
		n.Data(1, "0123456789", false)
		say()
		hear(frame.Put(nil, settings(api.Setting{Id: api.SWindow, Value: c.window})))
		// P24.5 asks for no window, so that the end is sent in any case.
		if sent, ok := n.Data(1, "", true); sent != 0 || !ok {
			t.Error(c.window, sent, ok)
		}
		say()
		got := Check(true, l)
		if got != c.want || got != -1 && !lateEnd(true, l, got) {
			t.Error(c.window, got)
		}
	}
}
