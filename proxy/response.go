package proxy

import (
	"reservoir/api"
	"reservoir/keep"
	"reservoir/merge"
	"reservoir/message"
	"reservoir/store"
	"reservoir/vary"
)

// fromOrigin processes an event of the origin's connection at place n.
func (p *Proxy) fromOrigin(n int, e api.Event) {
	switch e.Kind {
	case api.EGone:
		p.ups[n].gone = true
		p.failAll(n, e.Stream)
		return
	case api.ELost:
		p.failAll(n, 0)
		return
	}
	t := p.ofOrigin(n, e.Stream)
	if t == nil {
		p.ups[n].conn.Credit(e.Stream, len(e.Body))
		return
	}
	switch e.Kind {
	case api.EHead:
		p.answers(t, e)
	case api.EData, api.ETail:
		p.continues(t, e)
	case api.EReset:
		p.fail(t)
	}
}

// ofOrigin returns the transaction that is forwarded on a stream, or nil.
func (p *Proxy) ofOrigin(n, stream int) *trans {
	for _, t := range p.list {
		if t.forwarded && t.up == n && t.upStream == stream {
			return t
		}
	}
	return nil
}

// failAll fails the transactions at the origin's place n on streams after one.
func (p *Proxy) failAll(n, after int) {
	for _, t := range p.all() {
		if t.forwarded && t.up == n && t.upStream > after {
			p.fail(t)
		}
	}
}

// fail ends what is forwarded without a whole response.
func (p *Proxy) fail(t *trans) {
	p.pay(t, len(t.content))
	t.forwarded = false
	if t.done {
		return
	}
	p.release(t)
	switch {
	case t.alone:
		p.end(t)
	case !t.received:
		answer(t, 502)
	default:
		p.resetClient(t, api.Internal)
		p.end(t)
	}
}

// answers takes the head of a response.
func (p *Proxy) answers(t *trans, e api.Event) {
	s, ok := message.Response(e.Fields)
	if !ok || s.Status < 200 && e.End {
		p.ups[t.up].conn.Reset(t.upStream, api.Protocol)
		p.fail(t)
		return
	}
	if s.Status < 200 {
		return
	}
	s.Fields = message.Hop(s.Fields)
	if t.validates && s.Status == 304 {
		p.renew(t, s, e.End)
		return
	}
	t.received, t.told, t.came = true, s, p.now
	t.head = responseRows(s.Status, s.Fields, via())
	if merge.Clears(t.request, s) {
		p.store.Remove(vary.Key(t.request))
	}
	t.kept = t.whole && keep.May(t.request, s)
	p.review(t)
	if e.End {
		p.complete(t)
	}
}

// renew serves the entry that the origin has just validated.
func (p *Proxy) renew(t *trans, s api.Response, end bool) {
	e := merge.Renew(t.entry, s, t.asked, p.now)
	p.store.Put(e)
	if !end {
		p.cancel(t)
	}
	p.serve(t, e)
}

// continues takes more of the response content.
func (p *Proxy) continues(t *trans, e api.Event) {
	t.heard += len(e.Body)
	if t.alone {
		p.pay(t, len(e.Body))
	} else {
		t.content = append(t.content, e.Body...)
	}
	if t.kept {
		t.body = append(t.body, e.Body...)
		p.review(t)
	}
	if e.End {
		p.complete(t)
	}
}

// stored is the entry that would be stored, without its content.
func (t *trans) stored() api.Entry {
	return api.Entry{Request: t.request, Response: t.told, Asked: t.asked, Came: t.came}
}

// review drops what is kept if it is too large, and forwards those that can't
// share it.
func (p *Proxy) review(t *trans) {
	e := t.stored()
	if t.kept && store.Cost(e)+len(t.body) > p.cfg.Budget {
		t.kept, t.body = false, nil
	}
	for _, x := range p.list {
		if x.waits == t && (!t.kept || !vary.Match(e, x.request)) {
			x.waits, x.ready = nil, true
		}
	}
}

// complete ends the response of an origin.
func (p *Proxy) complete(t *trans) {
	if t.told.Length >= 0 && t.heard != t.told.Length && !(t.heard == 0 && bodiless(t)) {
		p.cancel(t)
		p.fail(t)
		return
	}
	t.done = true
	if t.kept {
		e := t.stored()
		e.Body = string(t.body)
		p.store.Put(e)
	}
	for _, x := range p.list {
		if x.waits != t {
			continue
		}
		x.waits = nil
		if e, ok := p.share(t, x); ok {
			p.serve(x, e)
		} else {
			x.ready = true
		}
	}
	if t.alone {
		p.cancel(t)
		p.end(t)
	}
}

// share returns the entry for x, if the response that it waited for was kept.
func (p *Proxy) share(t, x *trans) (api.Entry, bool) {
	if !t.kept {
		return api.Entry{}, false
	}
	return p.store.Get(x.request)
}

// bodiless reports whether a length may be that of a content which isn't sent.
func bodiless(t *trans) bool {
	return t.request.Method == "HEAD" || t.told.Status == 204 || t.told.Status == 304
}
