package conn

import (
	"reservoir/api"
	"reservoir/fields"
	"reservoir/stream"
	"reservoir/window"
)

// space reports whether the queue takes what is not a reply.
func (c *Conn) space() bool { return len(c.queue) < half }

// Fit reports whether rows can be sent at all, as a head.
func Fit(l []api.Row) bool {
	sum := 0
	for _, r := range l {
		if len(r.Name) > api.MaxText || len(r.Value) > api.MaxText {
			return false
		}
		sum += fields.Bytes(r.Field)
	}
	return sum <= api.MaxBlock/2
}

// Start begins a stream with the head l, and returns its number.
func (c *Conn) Start(l []api.Row, end bool) (int, bool) {
	if c.dead || c.server || c.gone || c.next > api.MaxStream {
		return 0, false
	}
	if len(c.streams) >= c.peer.Streams || !c.space() || !Fit(l) {
		return 0, false
	}
	s := c.begin(c.next)
	c.next += 2
	c.sendHead(s, l, end)
	return s.id, true
}

// Head sends the head l on a stream.
func (c *Conn) Head(id int, l []api.Row, end bool) bool {
	s := c.find(id)
	if !sendable(s) || s.sent && !end || !c.space() || !Fit(l) {
		return false
	}
	c.sendHead(s, l, end)
	return true
}

// sendable reports whether this end may send on the stream.
func sendable(s *flow) bool {
	return s != nil && (s.state == stream.Open || s.state == stream.HalfRemote)
}

// sendHead sends HEADERS and as many CONTINUATION frames as the block needs.
func (c *Conn) sendHead(s *flow, l []api.Row, end bool) {
	b := c.packer.Block(l)
	f := api.Frame{Type: api.THeaders, Stream: s.id}
	event := stream.Headers
	if end {
		f.Flags = api.FEnd
		event = stream.HeadersEnd
	}
	for len(b) > c.peer.Frame {
		f.Payload, b = b[:c.peer.Frame], b[c.peer.Frame:]
		c.put(f)
		f = api.Frame{Type: api.TContinuation, Stream: s.id}
	}
	f.Payload = b
	f.Flags |= api.FFields
	c.put(f)
	s.sent = true
	c.change(s, stream.Sent+event)
}

// Data sends bytes of s on a stream, as many as may be sent.
func (c *Conn) Data(id int, s string, end bool) (int, bool) {
	x := c.find(id)
	if !sendable(x) || !x.sent {
		return 0, false
	}
	if s == "" {
		return 0, !end || c.sendEnd(x)
	}
	sent := 0
	for sent < len(s) {
		n := min(len(s)-sent, c.peer.Frame, half-len(c.queue))
		n = window.Least(n, c.send, x.send)
		if n < 1 {
			return sent, true
		}
		f := api.Frame{Type: api.TData, Stream: id, Payload: []byte(s[sent : sent+n])}
		sent += n
		if end && sent == len(s) {
			f.Flags = api.FEnd
		}
		c.put(f)
		c.send, _ = c.send.Take(n)
		x.send, _ = x.send.Take(n)
	}
	if end {
		c.change(x, stream.Sent+stream.DataEnd)
	}
	return sent, true
}

// sendEnd sends the end of a stream alone.
func (c *Conn) sendEnd(s *flow) bool {
	if !c.space() {
		return false
	}
	c.put(api.Frame{Type: api.TData, Flags: api.FEnd, Stream: s.id})
	c.change(s, stream.Sent+stream.DataEnd)
	return true
}

// Reset resets a stream.
func (c *Conn) Reset(id int, code api.Code) bool {
	return c.find(id) != nil && c.reset(id, code)
}

// Credit lets the other end send n bytes more on a stream, and at all.
func (c *Conn) Credit(id, n int) bool {
	if c.dead || n < 1 {
		return false
	}
	if _, ok := c.receive.Credit(n); !ok {
		return false
	}
	if s := c.find(id); s != nil {
		if _, ok := s.receive.Credit(n); !ok {
			return false
		}
	}
	c.giveBack(id, n)
	return !c.dead
}

// Shut ends the connection with this code.
func (c *Conn) Shut(code api.Code) bool {
	if c.dead {
		return false
	}
	c.die(code)
	return true
}
