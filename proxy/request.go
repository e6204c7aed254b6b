package proxy

import (
	"strconv"

	"reservoir/api"
	"reservoir/fresh"
	"reservoir/merge"
	"reservoir/message"
	"reservoir/reuse"
	"reservoir/vary"
)

// fromClient processes an event of the client's connection at place n.
func (p *Proxy) fromClient(n int, e api.Event) {
	switch e.Kind {
	case api.EHead:
		p.asks(n, e)
	case api.EData, api.ETail:
		t := p.ofClient(n, e.Stream)
		if t == nil {
			p.downs[n].Credit(e.Stream, len(e.Body))
			return
		}
		p.goesOn(t, e)
	case api.EReset:
		if t := p.ofClient(n, e.Stream); t != nil {
			p.lose(t)
		}
	case api.ELost:
		p.loseAll(n)
	}
}

// ofClient returns the transaction of a client's stream, or nil.
func (p *Proxy) ofClient(n, stream int) *trans {
	for _, t := range p.list {
		if !t.alone && t.place == n && t.stream == stream {
			return t
		}
	}
	return nil
}

// asks begins a transaction by the head of a request.
func (p *Proxy) asks(n int, e api.Event) {
	q, ok := message.Request(e.Fields)
	if !ok || e.End && q.Length > 0 {
		p.downs[n].Reset(e.Stream, api.Protocol)
		return
	}
	if len(p.list) >= p.cfg.Trans {
		p.downs[n].Reset(e.Stream, api.Refused)
		return
	}
	t := &trans{place: n, stream: e.Stream, request: q, sending: q, whole: e.End}
	p.decide(t)
	p.list = append(p.list, t)
}

// goesOn takes more of the request content.
func (p *Proxy) goesOn(t *trans, e api.Event) {
	t.asking = append(t.asking, e.Body...)
	t.said += len(e.Body)
	t.whole = e.End
	n := t.request.Length
	if n >= 0 && (t.said > n || t.whole && t.said != n) {
		p.resetClient(t, api.Protocol)
		p.lose(t)
	}
}

// loseAll takes the client away from all transactions of place n.
func (p *Proxy) loseAll(n int) {
	for _, t := range p.all() {
		if !t.alone && t.place == n {
			p.lose(t)
		}
	}
}

// lose takes the client away from a transaction; it goes on alone for those
// that wait for it.
func (p *Proxy) lose(t *trans) {
	if p.awaited(t) && (t.ready || t.forwarded && !t.done) {
		p.pay(t, len(t.content))
		t.content, t.alone = nil, true
		return
	}
	p.cancel(t)
	p.end(t)
}

// awaited reports whether other transactions wait for t.
func (p *Proxy) awaited(t *trans) bool {
	for _, x := range p.list {
		if x.waits == t {
			return true
		}
	}
	return false
}

// decide says what happens to a new transaction.
func (p *Proxy) decide(t *trans) {
	if t.request.Method != "GET" || !t.whole {
		t.ready = true
		return
	}
	entry, ok := p.store.Get(t.request)
	if !ok {
		p.decideAlone(t)
		return
	}
	switch reuse.Of(entry, t.request, p.now, p.cfg.Share) {
	case reuse.Serve:
		p.serve(t, entry)
	case reuse.Refuse:
		answer(t, 504)
	default:
		t.ready = true
		if q, ok := merge.Ask(entry, t.request); ok {
			t.validates, t.entry, t.sending = true, entry, q
		}
	}
}

// decideAlone says what happens to a transaction if nothing is stored.
func (p *Proxy) decideAlone(t *trans) {
	if reuse.None(t.request) == reuse.Refuse {
		answer(t, 504)
		return
	}
	if simple(t.request) {
		key := vary.Key(t.request)
		for _, x := range p.list {
			if shareable(x) && vary.Key(x.request) == key {
				t.waits = x
				return
			}
		}
	}
	t.ready = true
}

// shareable reports whether others may wait for x.
func shareable(x *trans) bool {
	return x.request.Method == "GET" && x.whole && simple(x.request) &&
		x.waits == nil && !x.validates && x.head == nil
}

// simple reports whether nothing in a request asks for more than a response.
func simple(q api.Request) bool {
	for _, f := range q.Fields {
		switch f.Name {
		case "cache-control", "pragma", "authorization", "range", "if-match",
			"if-none-match", "if-modified-since", "if-unmodified-since", "if-range":
			return false
		}
	}
	return true
}

// answer makes a response of the proxy's own.
func answer(t *trans, status int) {
	respond(t, responseRows(status, one("content-length", "0")))
}

// serve makes a response of an entry.
func (p *Proxy) serve(t *trans, e api.Entry) {
	status := e.Response.Status
	if status == 200 && merge.Same(e, t.request) {
		status = 304
	}
	var l []api.Field
	for _, f := range e.Response.Fields {
		if f.Name != "age" && (status != 304 || !ofContent(f.Name)) {
			l = append(l, f)
		}
	}
	age := one("age", strconv.Itoa(fresh.Age(e, p.now)))
	respond(t, responseRows(status, l, age, via()))
	if status != 304 {
		t.content = []byte(e.Body)
	}
}

// respond makes a whole response without content, in place of the origin's.
func respond(t *trans, head []api.Row) {
	t.head = head
	t.content = nil
	t.done = true
	t.ready, t.forwarded = false, false
}

// ofContent reports whether fields of this name tell of a content that a 304
// doesn't have.
func ofContent(name string) bool {
	switch name {
	case "content-length", "content-type", "content-encoding":
		return true
	}
	return false
}

func via() []api.Field { return one("via", "2 reservoir") }

// row makes a row of a field.
func row(f api.Field) api.Row {
	switch f.Name {
	case "authorization", "cookie", "set-cookie":
		return api.Row{Field: f, How: 3}
	case "age":
		return api.Row{Field: f, How: 2}
	}
	return api.Row{Field: f, How: 1}
}

// rows makes rows of lists of fields, one after another.
func rows(lists ...[]api.Field) []api.Row {
	var out []api.Row
	for _, l := range lists {
		for _, f := range l {
			out = append(out, row(f))
		}
	}
	return out
}

// one is a list of one field.
func one(name, value string) []api.Field {
	return []api.Field{{Name: name, Value: value}}
}

// responseRows is the head of a response.
func responseRows(status int, lists ...[]api.Field) []api.Row {
	return append(rows(one(":status", strconv.Itoa(status))), rows(lists...)...)
}

// requestRows is the head of a request that is forwarded.
func requestRows(q api.Request) []api.Row {
	return rows(one(":method", q.Method), one(":scheme", q.Scheme),
		one(":authority", q.Authority), one(":path", q.Path),
		message.Hop(q.Fields), via())
}
