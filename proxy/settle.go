package proxy

import (
	"reservoir/api"
	"reservoir/conn"
)

// settle does all that can be done now.
func (p *Proxy) settle() {
	for n, c := range p.downs {
		if c != nil && c.Dead() {
			p.loseAll(n)
		}
	}
	for n, o := range p.ups {
		if o != nil && o.conn.Dead() {
			p.failAll(n, 0)
		}
	}
	list := p.all()
	for _, t := range list {
		if t.ready {
			p.forward(t)
		}
	}
	for _, t := range list {
		if t.forwarded {
			p.ask(t)
		}
	}
	for _, t := range list {
		if !t.alone {
			p.tell(t)
		}
	}
}

// origin returns the connection for an authority, if need be a new one, or nil.
func (p *Proxy) origin(authority string) (int, *origin) {
	free := -1
	for n, o := range p.ups[:p.cfg.Ups] {
		if o != nil && o.authority == authority {
			return n, o
		}
		if o == nil && free < 0 {
			free = n
		}
	}
	if free < 0 {
		return 0, nil
	}
	c, _ := conn.New(false, p.cfg.Conn)
	p.ups[free] = &origin{conn: c, authority: authority}
	p.dials = append(p.dials, api.Dial{N: free, Authority: authority})
	return free, p.ups[free]
}

// forward begins a stream at the origin.
func (p *Proxy) forward(t *trans) {
	n, o := p.origin(t.sending.Authority)
	if o == nil {
		p.refuse(t, 503)
		return
	}
	l := requestRows(t.sending)
	if o.gone || o.conn.Dead() || !conn.Fit(l) {
		p.refuse(t, 502)
		return
	}
	end := t.whole && len(t.asking) == 0
	id, ok := o.conn.Start(l, end)
	if !ok {
		return
	}
	t.ready, t.forwarded = false, true
	t.up, t.upStream = n, id
	t.asked, t.endGiven = p.now, end
}

// refuse answers a transaction that can't be forwarded.
func (p *Proxy) refuse(t *trans, status int) {
	p.release(t)
	if t.alone {
		p.end(t)
		return
	}
	answer(t, status)
}

// send sends pending content, and returns how many bytes went, and whether the
// end did.
func send(c *conn.Conn, id int, pending []byte, end bool) (int, bool) {
	if len(pending) == 0 && !end {
		return 0, false
	}
	// No queue takes more than this at once.
	piece := string(pending[:min(len(pending), api.MaxQueue)])
	n, ok := c.Data(id, piece, end && len(piece) == len(pending))
	return n, ok && end && n == len(pending)
}

// ask sends request content to the origin.
func (p *Proxy) ask(t *trans) {
	c := p.upConn(t.up)
	if c == nil || t.endGiven {
		return
	}
	n, ended := send(c, t.upStream, t.asking, t.whole)
	t.asking = t.asking[n:]
	t.endGiven = ended
	p.returned(t, n)
}

// tell sends the response to the client.
func (p *Proxy) tell(t *trans) {
	c := p.downConn(t.place)
	if c == nil || t.head == nil {
		return
	}
	ended := false
	if !t.headGiven {
		if !conn.Fit(t.head) {
			p.resetClient(t, api.Internal)
			p.lose(t)
			return
		}
		end := t.done && len(t.content) == 0
		if !c.Head(t.stream, t.head, end) {
			return
		}
		t.headGiven, ended = true, end
	}
	if !ended {
		var n int
		n, ended = send(c, t.stream, t.content, t.done)
		t.content = t.content[n:]
		p.pay(t, n)
	}
	if ended {
		p.finish(t)
	}
}

// finish ends a transaction whose response was sent.
func (p *Proxy) finish(t *trans) {
	if !t.whole {
		p.resetClient(t, api.NoError)
	}
	if !t.endGiven {
		p.cancel(t)
	}
	p.end(t)
}
