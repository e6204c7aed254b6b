package peer

import (
	"strings"
	"testing"

	"reservoir/api"
	"reservoir/frame"
	"reservoir/pack"
	"reservoir/setting"
)

func fr(kind, flags, id int, payload ...byte) api.Frame {
	return api.Frame{Type: kind, Flags: flags, Stream: id, Payload: payload}
}

func settings(l ...api.Setting) api.Frame {
	return api.Frame{Type: api.TSettings, Payload: setting.Put(l)}
}

func four(n int) []byte { return []byte{byte(n >> 24), byte(n >> 16), byte(n >> 8), byte(n)} }

func ack() api.Frame { return fr(api.TSettings, api.FAck, 0) }

func more(id, n int) api.Frame { return fr(api.TWindow, 0, id, four(n)...) }

func rst(id int) api.Frame { return fr(api.TReset, 0, id, 0, 0, 0, 8) }

func goAway() api.Frame { return fr(api.TGoAway, 0, 0, make([]byte, 8)...) }

func ping() api.Frame { return fr(api.TPing, 0, 0, make([]byte, 8)...) }

// head is HEADERS of one indexed field; flags are FEnd and FFields.
func head(id, flags int) api.Frame { return fr(api.THeaders, flags, id, 0x88) }

func data(id, n int, end bool) api.Frame {
	f := fr(api.TData, 0, id, make([]byte, n)...)
	if end {
		f.Flags = api.FEnd
	}
	return f
}

const (
	last  = api.FFields
	ended = api.FFields | api.FEnd
)

// talk makes moves of frames.
type talk struct {
	server bool
	l      []api.Move
}

// begin is a talk in which both ends have sent SETTINGS.
func begin(server bool) *talk {
	k := &talk{server: server}
	client := []byte(frame.Preface)
	if server {
		k.l = append(k.l, api.Move{Bytes: client})
		return k.hears(settings()).says(settings())
	}
	k.l = append(k.l, api.Move{Said: true, Bytes: client})
	return k.says(settings()).hears(settings())
}

func (k *talk) hears(l ...api.Frame) *talk {
	for _, f := range l {
		k.l = append(k.l, api.Move{Bytes: frame.Put(nil, f)})
	}
	return k
}

func (k *talk) says(l ...api.Frame) *talk {
	for _, f := range l {
		k.l = append(k.l, api.Move{Said: true, Bytes: frame.Put(nil, f)})
	}
	return k
}

// ok checks that all moves are legal, so far.
func (k *talk) ok(t *testing.T) *talk {
	t.Helper()
	if got := Check(k.server, k.l); got != -1 {
		t.Error("not legal:", got, "of", len(k.l))
	}
	return k
}

// bad checks that each of the frames may not be sent now.
func (k *talk) bad(t *testing.T, l ...api.Frame) *talk {
	t.Helper()
	for i, f := range l {
		moves := append(k.l[:len(k.l):len(k.l)], api.Move{Said: true, Bytes: frame.Put(nil, f)}, api.Move{Bytes: []byte("x")})
		if got := Check(k.server, moves); got != len(k.l) {
			t.Error("legal:", i, got, "of", len(k.l))
		}
	}
	return k.ok(t)
}

func TestP25_1Index(t *testing.T) {
	if Check(true, nil) != -1 || Check(false, nil) != -1 {
		t.Error("no moves")
	}
	b := frame.Put(nil, settings())
	said := func(b ...[]byte) []api.Move {
		var l []api.Move
		for _, x := range b {
			l = append(l, api.Move{Said: true, Bytes: x})
		}
		return l
	}
	for i, c := range []struct {
		server bool
		l      []api.Move
		want   int
	}{
		{true, said(b), -1},
		{true, said(frame.Put(nil, ping())), 0},
		{true, said(frame.Put(b, data(1, 1, false))), 0},
		{true, said(b[:4], b[4:], frame.Put(nil, data(1, 1, false))), 2},
		{true, said(b, nil, frame.Put(nil, rst(1))[:12], frame.Put(nil, rst(1))[12:], nil), 3},
		{true, said(b, frame.Put(nil, rst(1))[:12]), -1},
		{true, []api.Move{{Bytes: []byte("nonsense")}, {Said: true, Bytes: b}}, -1},
		{false, said(b), 0},
		{false, said([]byte(frame.Preface), b), -1},
		{false, said([]byte(frame.Preface)[:10], []byte("x")), 1},
		{false, said([]byte(frame.Preface), frame.Put(nil, ping())), 1},
	} {
		if got := Check(c.server, c.l); got != c.want {
			t.Error(i, got)
		}
	}
}

func TestP25_1Example(t *testing.T) {
	k := &talk{server: true, l: []api.Move{{Bytes: frame.Put(frame.Put([]byte(frame.Preface), settings()), fr(api.THeaders, ended, 1, 0x82))}}}
	k.says(settings(), head(1, last))
	var b []byte
	for _, n := range []int{16384, 16384, 16384, 16383, 1} {
		b = frame.Put(b, data(1, n, false))
	}
	k.l = append(k.l, api.Move{Said: true, Bytes: b})
	if got := Check(true, k.l); got != 3 {
		t.Error(got)
	}
}

func TestP25_2Deaf(t *testing.T) {
	// What comes behind an error does not count.
	for _, f := range []api.Frame{fr(api.TPing, 0, 0, 1), fr(api.TData, 0, 0), more(0, 0), fr(99, 0, 0, make([]byte, api.MinFrame+1)...)} {
		begin(true).says(ack()).ok(t).hears(f, settings(), head(1, ended)).bad(t, ack(), head(1, ended))
	}
	// A stream error does not count, and nothing else is lost.
	k := begin(true).hears(head(1, ended), more(1, 0), fr(api.TPriority, 0, 1, 1), fr(api.THeaders, ended|api.FPriority, 3, 0, 0, 0, 3, 0))
	k.says(head(1, last)).bad(t, head(3, last), rst(3)).says(ack(), data(1, 5, true)).ok(t)
	begin(true).hears(fr(99, 255, 7, 1), goAway(), ping(), rst(1), fr(api.TContinuation, 4, 1)).bad(t, rst(1), head(1, ended))
}

func TestP25_2Acknowledgements(t *testing.T) {
	begin(true).says(ack()).bad(t, ack())
	begin(true).hears(settings(), ack()).says(ack(), ack()).bad(t, ack())
	begin(false).says(ack()).bad(t, ack())
	for _, server := range []bool{true, false} {
		k := &talk{server: server}
		if !server {
			k.l = append(k.l, api.Move{Said: true, Bytes: []byte(frame.Preface)})
		}
		k.says(settings()).bad(t, ack())
	}
}

// open is a server's talk in which stream 1 has got a head that was answered.
func open() *talk { return begin(true).hears(head(1, ended)).says(head(1, last)) }

func TestP25_2Windows(t *testing.T) {
	use := func(k *talk, n int) *talk {
		for ; n > 0; n -= api.MinFrame {
			k.says(data(1, min(n, api.MinFrame), false))
		}
		return k
	}
	use(open(), 65535).ok(t).bad(t, data(1, 1, false))
	use(open().hears(more(1, 10)), 65535).bad(t, data(1, 1, false))
	use(open().hears(more(0, 10)), 65535).bad(t, data(1, 1, false))
	use(open().hears(more(0, 10), more(1, 9)), 65544).bad(t, data(1, 1, false))
	use(open().hears(more(3, 10), more(0, 10)), 65535).bad(t, data(1, 1, false))
	// The connection's window ends at MaxWindow; a stream's has no end.
	use(open().hears(more(0, api.MaxWindow), more(0, api.MaxWindow), more(1, 70000)), 70000).ok(t)
	k := open().hears(more(1, api.MaxWindow), more(1, api.MaxWindow), more(0, 1000))
	use(k, 66535).bad(t, data(1, 1, false))
	// Padding counts.
	padded := fr(api.TData, api.FPadded, 1, append([]byte{2}, make([]byte, 9)...)...)
	use(open(), 65525).says(padded).ok(t)
	use(open(), 65526).bad(t, padded, data(1, 10, false)).says(data(1, 9, true)).ok(t)
}

func TestP25_2StatesByWhatIsReceived(t *testing.T) {
	// A request without end, then its end by DATA or HEADERS.
	for _, end := range []api.Frame{data(1, 3, true), head(1, ended)} {
		k := begin(true).hears(head(1, last)).says(head(1, last), data(1, 1, true)).bad(t, data(1, 1, false), head(1, ended))
		k.hears(end).bad(t, data(1, 0, true), head(1, ended)).says(rst(1)).ok(t)
	}
	// An event that can't be changes nothing.
	begin(true).hears(head(1, ended), data(1, 1, true), head(1, ended), head(1, last)).says(head(1, last), data(1, 1, true)).ok(t)
	// A number that is less than the last one is known from its HEADERS on, too.
	k := begin(true).hears(head(5, last)).says(rst(3), rst(5)).bad(t, head(3, last), rst(7), rst(4)).hears(head(3, last))
	k.says(head(3, last)).bad(t, head(5, last), rst(7)).says(rst(5)).ok(t)
	// Even streams, and DATA, make nothing known.
	begin(true).hears(head(2, last), data(1, 1, false), more(1, 1)).bad(t, head(2, last), data(2, 1, false), rst(2), rst(1), head(1, last))
}

func TestP25_3Frames(t *testing.T) {
	k := begin(true)
	k.bad(t, fr(api.TPing, 0, 0, 1), fr(api.TPing, 0, 1, make([]byte, 8)...), fr(api.TPriority, 0, 1, 1), more(1, 0), more(0, 0), fr(api.TPush, 4, 1), fr(10, 0, 0), fr(255, 0, 1), fr(api.TContinuation, 4, 1), settings(api.Setting{Id: 2, Value: 7}))
	k.says(ping(), settings(), more(0, 5), more(99, 5), fr(api.TPriority, 0, 4, 0, 0, 0, 1, 1)).ok(t)
	big := fr(api.TGoAway, 0, 0, make([]byte, api.MinFrame)...)
	k.bad(t, fr(api.TGoAway, 0, 0, make([]byte, api.MinFrame+1)...)).says(big).ok(t)
	k.bad(t, ping(), goAway(), settings(), ack(), rst(1))
	if !strings.HasPrefix(frame.Preface, "PRI") {
		t.Error("preface")
	}
}

func TestP25_3FirstFrame(t *testing.T) {
	for _, f := range []api.Frame{ack(), ping(), goAway(), more(0, 1), head(1, ended)} {
		(&talk{server: true}).hears().bad(t, f)
		k := &talk{l: []api.Move{{Said: true, Bytes: []byte(frame.Preface)}}}
		k.hears(settings()).bad(t, f)
	}
	(&talk{server: true}).says(settings()).ok(t)
}

func TestP25_3AllowedSize(t *testing.T) {
	size := api.Setting{Id: api.SFrame, Value: 20000}
	less := api.Setting{Id: api.SFrame, Value: api.MinFrame}
	k := begin(true).hears(head(1, ended), settings(size), settings(less, size, less)).says(head(1, last), ack())
	k.bad(t, data(1, 20000, false), data(1, 16385, false)).says(ack(), data(1, 20000, false)).bad(t, data(1, 20001, false))
	k.says(ack(), data(1, api.MinFrame, false)).bad(t, data(1, 16385, false))
}

func TestP25_3InitialWindow(t *testing.T) {
	window := func(n int) api.Frame { return settings(api.Setting{Id: api.SWindow, Value: n}) }
	// Known streams change, and new ones begin with it.
	k := begin(true).hears(head(1, ended)).says(head(1, last), ack(), data(1, 100, false)).hears(window(110), head(3, ended))
	k.says(data(1, 20, false), head(3, last), ack()).bad(t, data(1, 1, false), data(3, 111, false)).says(data(3, 110, true))
	k.hears(head(5, ended)).says(head(5, last)).bad(t, data(5, 111, false)).hears(window(50), window(115)).says(ack())
	k.bad(t, data(5, 51, false)).says(data(5, 50, false), ack(), data(5, 65, false)).bad(t, data(5, 1, false))
	// Stream 1 is 5 below 0 now.
	k.bad(t, data(1, 1, false)).hears(more(1, 6)).bad(t, data(1, 2, false)).says(data(1, 1, false), data(1, 0, true)).ok(t)
}

func TestP25_3EmptyData(t *testing.T) {
	window := func(n int) api.Frame { return settings(api.Setting{Id: api.SWindow, Value: n}) }
	padded := fr(api.TData, api.FPadded, 1, 0)
	for _, server := range []bool{true, false} {
		k := begin(server)
		if server {
			k.hears(head(1, ended))
		}
		k.says(ack(), head(1, last), data(1, 1, false)).hears(window(0)).says(data(1, 0, false))
		// At -1 nothing may be sent, at 0 what costs nothing, at 1 one byte.
		k.says(ack()).bad(t, data(1, 0, false), data(1, 0, true), data(1, 1, false), padded)
		k.hears(more(0, 100)).bad(t, data(1, 0, false), data(1, 0, true))
		k.hears(more(1, 1)).bad(t, data(1, 1, true), padded).says(data(1, 0, false)).ok(t)
		k.hears(more(1, 1)).bad(t, data(1, 2, true)).says(padded, data(1, 0, true)).ok(t)
	}
	// The window of the connection may be used up, but is never below 0.
	k := open()
	for range 4 {
		k.says(data(1, 16383, false))
	}
	k.says(data(1, 3, false)).hears(more(1, 100)).bad(t, data(1, 1, false)).says(data(1, 0, true)).ok(t)
	// What SWindow takes away, a later value gives back.
	k = open().says(ack(), data(1, 9, false)).hears(window(8), window(9)).says(ack())
	k.bad(t, data(1, 0, true)).says(ack(), data(1, 0, true)).ok(t)
	// Other frames of a stream need no window.
	k = open().says(ack(), data(1, 9, false)).hears(window(0)).says(ack()).bad(t, data(1, 0, true))
	k.says(more(1, 5), head(1, ended)).ok(t)
}

func TestP25_3Data(t *testing.T) {
	begin(true).bad(t, data(1, 0, false), data(2, 0, true))
	begin(true).hears(head(1, last)).bad(t, data(3, 1, false)).says(data(1, 1, true)).bad(t, data(1, 0, false))
	begin(false).bad(t, data(1, 1, false)).says(head(1, last), data(1, 1, false), data(1, 0, true)).bad(t, data(1, 0, true), head(1, ended))
	begin(false).says(head(1, ended)).bad(t, data(1, 1, false))
}

func TestP25_3Resets(t *testing.T) {
	begin(true).bad(t, rst(1), rst(2)).hears(head(3, last)).says(rst(3), rst(3), rst(1)).bad(t, rst(5), head(3, ended), data(3, 1, true))
	begin(false).bad(t, rst(1)).says(head(3, last)).bad(t, rst(2), rst(5)).says(rst(1), rst(3)).bad(t, data(3, 1, false), head(3, ended))
}

func TestP25_3HeadsOfAServer(t *testing.T) {
	begin(true).bad(t, head(1, last), head(2, last)).hears(head(1, last)).bad(t, head(3, last)).says(head(1, last), head(1, last), head(1, ended)).bad(t, head(1, ended))
}

func TestP25_3HeadsOfAClient(t *testing.T) {
	begin(false).bad(t, head(2, last), head(4, ended)).says(head(3, last)).bad(t, head(1, last), head(2, last)).says(head(3, ended)).bad(t, head(3, ended)).says(head(5, last), head(9, last)).bad(t, head(7, last))
	// A window may be told of before the HEADERS are out.
	k := begin(false).hears(more(1, 10), more(0, 20), more(2, 10)).bad(t, data(1, 1, false)).says(head(1, last))
	for range 3 {
		k.says(data(1, api.MinFrame, false))
	}
	k.says(data(1, 16383, false)).bad(t, data(1, 11, false)).says(data(1, 10, false)).bad(t, data(1, 1, false))
	// But not of one whose number is not greater than the last.
	k = begin(false).says(head(5, ended)).hears(more(3, 10)).bad(t, head(3, last)).hears(head(5, ended), head(7, ended)).bad(t, data(7, 1, false))
}

func TestP25_3Blocks(t *testing.T) {
	k := begin(true).hears(head(1, ended), head(3, ended)).says(head(1, 0))
	k.bad(t, ping(), fr(api.TContinuation, 4, 3), head(3, ended), data(1, 1, false), goAway()).says(fr(api.TContinuation, 0, 1, 0x88))
	k.bad(t, ping(), fr(api.TContinuation, 4, 1, 0x80)).says(fr(api.TContinuation, 4, 1)).bad(t, fr(api.TContinuation, 4, 1)).says(ping()).ok(t)
	k.bad(t, fr(api.THeaders, last, 3, 0x80), fr(api.THeaders, last, 3, 0xbe), fr(api.THeaders, last, 3, 0x3f, 0xe2, 0x1f), fr(api.THeaders, last, 3, 0x40))
	// Each block is one by itself: a size comes first in it.
	begin(true).hears(head(1, ended), head(3, ended)).says(head(1, last), fr(api.THeaders, last, 3, 0x20, 0x88), fr(api.THeaders, ended, 1, 0x20, 0x20, 0x88)).ok(t)
	// The table goes on from block to block.
	p, _ := pack.New(4096)
	l := []api.Row{{Field: api.Field{Name: "x", Value: "y"}, How: 1}}
	k.says(fr(api.THeaders, last, 3, p.Block(l)...)).ok(t).says(fr(api.THeaders, ended, 3, p.Block(l)...)).ok(t)
}
