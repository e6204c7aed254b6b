package conn

import (
	"reservoir/api"
	"reservoir/setting"
	"reservoir/shape"
	"reservoir/stream"
)

// Feed takes bytes of the other end, and returns what happens by them.
func (c *Conn) Feed(b []byte) []api.Event {
	if c.dead {
		return nil
	}
	c.feeding = true
	list, bad := c.reader.Feed(b)
	for _, f := range list {
		if !c.dead {
			c.frame(f)
		}
	}
	if !c.dead && bad.Scope != api.Fine {
		c.die(bad.Code)
	}
	events := c.events
	c.events, c.feeding = nil, false
	return events
}

// frame processes one frame.
func (c *Conn) frame(f api.Frame) {
	if !c.begun && (f.Type != api.TSettings || f.Flags&api.FAck != 0) {
		c.die(api.Protocol)
		return
	}
	c.begun = true
	more := f.Type == api.TContinuation
	if more != c.block.open || more && f.Stream != c.block.stream {
		c.die(api.Protocol)
		return
	}
	p, bad := shape.Of(f)
	switch {
	case bad.Scope == api.OfConn:
		c.die(bad.Code)
	case bad.Scope == api.OfStream:
		c.malformed(f, bad.Code)
	default:
		c.part(p)
	}
}

// malformed processes a frame that is wrong for its stream alone.
func (c *Conn) malformed(f api.Frame, code api.Code) {
	there := c.find(f.Stream) != nil
	switch {
	case f.Type == api.THeaders || !there && c.idle(f.Stream):
		c.die(code)
	case !c.isMuted(f.Stream):
		c.fail(f.Stream, code)
	}
}

// fail is a stream error.
func (c *Conn) fail(id int, code api.Code) {
	there := c.find(id) != nil
	if c.reset(id, code) && there {
		c.report(api.Event{Kind: api.EReset, Stream: id, Code: code})
	}
}

// part processes a valid frame.
func (c *Conn) part(p api.Part) {
	switch p.Type {
	case api.TSettings:
		c.settings(p)
	case api.TPing:
		if !p.Ack {
			c.reply(api.Frame{Type: api.TPing, Flags: api.FAck, Payload: p.Body})
		}
	case api.TGoAway:
		c.gone = true
		c.report(api.Event{Kind: api.EGone, Stream: p.Last, Code: p.Code})
	case api.TWindow:
		c.credited(p)
	case api.TReset:
		c.resetBy(p)
	case api.TData:
		c.data(p)
	case api.THeaders:
		c.block = block{open: true, end: p.End, stream: p.Stream}
		c.piece(p)
	case api.TContinuation:
		c.piece(p)
	}
}

// settings applies the settings of the other end.
func (c *Conn) settings(p api.Part) {
	if p.Ack {
		return
	}
	for _, s := range p.Settings {
		old := c.peer.Window
		c.peer, _ = setting.Apply(c.peer, []api.Setting{s})
		switch s.Id {
		case api.STable:
			c.resize(min(s.Value, tableSize))
		case api.SWindow:
			if !c.shift(old, c.peer.Window) {
				c.die(api.FlowControl)
				return
			}
		}
	}
	c.reply(api.Frame{Type: api.TSettings, Flags: api.FAck})
}

// resize changes the size of the packer's table.
func (c *Conn) resize(most int) {
	if _, _, now := c.packer.Table(); now != most {
		c.packer.Resize(most)
	}
}

// shift changes the windows for sending of all streams.
func (c *Conn) shift(old, now int) bool {
	for _, s := range c.streams {
		w, ok := s.send.Shift(old, now)
		if !ok {
			return false
		}
		s.send = w
	}
	return true
}

// credited processes a WINDOW_UPDATE.
func (c *Conn) credited(p api.Part) {
	if p.Stream == 0 {
		w, ok := c.send.Credit(p.More)
		if !ok {
			c.die(api.FlowControl)
			return
		}
		c.send = w
		return
	}
	s := c.find(p.Stream)
	if s == nil {
		if c.idle(p.Stream) {
			c.die(api.Protocol)
		}
		return
	}
	w, ok := s.send.Credit(p.More)
	if !ok {
		c.fail(s.id, api.FlowControl)
		return
	}
	s.send = w
}

// resetBy processes an RST_STREAM.
func (c *Conn) resetBy(p api.Part) {
	if c.find(p.Stream) == nil {
		if c.idle(p.Stream) {
			c.die(api.Protocol)
		}
		return
	}
	c.remove(p.Stream)
	c.report(api.Event{Kind: api.EReset, Stream: p.Stream, Code: p.Code})
}

// data processes a DATA frame.
func (c *Conn) data(p api.Part) {
	s := c.find(p.Stream)
	if s == nil && c.idle(p.Stream) {
		c.die(api.Protocol)
		return
	}
	w, ok := c.receive.Take(p.Cost)
	if !ok {
		c.die(api.FlowControl)
		return
	}
	c.receive = w
	if s == nil && c.isMuted(p.Stream) {
		c.giveBack(p.Stream, p.Cost)
		return
	}
	if code := refusal(s, p.Cost); code != api.NoError {
		c.fail(p.Stream, code)
		if !c.dead {
			c.giveBack(p.Stream, p.Cost)
		}
		return
	}
	s.receive, _ = s.receive.Take(p.Cost)
	event := stream.Data
	if p.End {
		event = stream.DataEnd
	}
	c.change(s, event)
	c.giveBack(p.Stream, p.Cost-len(p.Body))
	if !c.dead {
		c.report(api.Event{Kind: api.EData, Stream: p.Stream, Body: string(p.Body), End: p.End})
	}
}

// refusal returns the error of DATA on a stream, or on one that is closed.
func refusal(s *flow, cost int) api.Code {
	switch {
	case s == nil || s.state != stream.Open && s.state != stream.HalfLocal:
		return api.StreamClosed
	case !s.received:
		return api.Protocol
	case cost > s.receive.Left():
		return api.FlowControl
	}
	return api.NoError
}

// piece adds a piece to the header block, and processes the whole of it.
func (c *Conn) piece(p api.Part) {
	if len(c.block.bytes)+len(p.Body) > api.MaxBlock {
		c.die(api.Calm)
		return
	}
	c.block.bytes = append(c.block.bytes, p.Body...)
	if !p.Fields {
		return
	}
	b := c.block
	c.block = block{}
	rows, no := c.unpacker.Block(b.bytes)
	switch no {
	case api.OK:
		c.head(b.stream, plain(rows), b.end)
	case api.ErrLong:
		c.die(api.Calm)
	default:
		c.die(api.Compression)
	}
}

// plain returns the fields of rows.
func plain(rows []api.Row) []api.Field {
	var l []api.Field
	for _, r := range rows {
		l = append(l, r.Field)
	}
	return l
}

// head processes the fields of a whole header block.
func (c *Conn) head(id int, l []api.Field, end bool) {
	s := c.find(id)
	if s == nil {
		if s = c.open(id); s == nil {
			return
		}
	}
	switch {
	case s.state != stream.Idle && s.state != stream.Open && s.state != stream.HalfLocal:
		c.fail(id, api.StreamClosed)
		return
	case s.received && !end:
		c.fail(id, api.Protocol)
		return
	}
	kind := api.EHead
	if s.received {
		kind = api.ETail
	}
	c.report(api.Event{Kind: kind, Stream: id, Fields: l, End: end})
	if c.server || end || !interim(l) {
		s.received = true
	}
	event := stream.Headers
	if end {
		event = stream.HeadersEnd
	}
	c.change(s, event)
}

// open begins a stream by HEADERS on one that is not there, if it may begin.
func (c *Conn) open(id int) *flow {
	if !c.idle(id) {
		if !c.isMuted(id) {
			c.fail(id, api.StreamClosed)
		}
		return nil
	}
	if !c.server || id%2 == 0 {
		c.die(api.Protocol)
		return nil
	}
	c.last = id
	if len(c.streams) >= c.own.Streams {
		c.fail(id, api.Refused)
		return nil
	}
	return c.begin(id)
}

// interim reports whether another head of a response follows l.
func interim(l []api.Field) bool {
	return len(l) > 0 && l[0].Name == ":status" && len(l[0].Value) == 3 && l[0].Value[0] == '1'
}
