package conn

import (
	"bytes"
	"math"
	"reflect"
	"slices"
	"strings"
	"testing"

	"reservoir/api"
	"reservoir/frame"
	"reservoir/pack"
	"reservoir/setting"
	"reservoir/stream"
)

var small = api.Config{Streams: 2, Window: 65535, List: 65536}

func made(t *testing.T, server bool, own api.Config) *Conn {
	t.Helper()
	c, no := New(server, own)
	if no != api.OK {
		t.Fatal(own, no)
	}
	return c
}

// begun returns a connection that got the other end's first SETTINGS, and
// whose queue is empty.
func begun(t *testing.T, server bool, own api.Config, l ...api.Setting) *Conn {
	t.Helper()
	c := made(t, server, own)
	var b []byte
	if server {
		b = []byte(frame.Preface)
	}
	happens(t, c, frame.Put(b, settings(l...)))
	c.Out(1000)
	return c
}

func settings(l ...api.Setting) api.Frame {
	return api.Frame{Type: api.TSettings, Payload: setting.Put(l)}
}

func fr(kind, flags, id int, payload ...byte) api.Frame {
	return api.Frame{Type: kind, Flags: flags, Stream: id, Payload: payload}
}

func ack() api.Frame { return fr(api.TSettings, api.FAck, 0) }

func rst(id int, code api.Code) api.Frame { return fr(api.TReset, 0, id, four(int(code))...) }

func more(id, n int) api.Frame { return fr(api.TWindow, 0, id, four(n)...) }

func goAway(last int, code api.Code) api.Frame {
	return fr(api.TGoAway, 0, 0, append(four(last), four(int(code))...)...)
}

// get is the head of a GET with indexes alone.
func get(id int, end bool) api.Frame {
	f := fr(api.THeaders, api.FFields, id, 0x82, 0x87, 0x84)
	if end {
		f.Flags |= api.FEnd
	}
	return f
}

func data(id int, s string, end bool) api.Frame {
	f := fr(api.TData, 0, id, []byte(s)...)
	if end {
		f.Flags = api.FEnd
	}
	return f
}

func wire(l ...api.Frame) []byte {
	var b []byte
	for _, f := range l {
		b = frame.Put(b, f)
	}
	return b
}

// happens checks the events of Feed.
func happens(t *testing.T, c *Conn, b []byte, want ...api.Event) {
	t.Helper()
	got := c.Feed(b)
	for i := range got {
		if len(got[i].Fields) == 0 {
			got[i].Fields = nil
		}
	}
	if len(got) != len(want) || len(want) > 0 && !reflect.DeepEqual(got, want) {
		t.Errorf("events: %+v", got)
	}
}

// says checks the frames in the queue, and empties it.
func says(t *testing.T, c *Conn, want ...api.Frame) {
	t.Helper()
	b := c.Out(math.MaxInt64)
	if !bytes.Equal(b, wire(want...)) {
		r, _ := frame.New(api.MaxFrame, false)
		l, bad := r.Feed(b)
		t.Errorf("said: %+v %+v", l, bad)
	}
}

// dies checks that the frames kill the connection, after the events before.
func dies(t *testing.T, c *Conn, code api.Code, last int, l ...api.Frame) {
	t.Helper()
	happens(t, c, wire(l...), lost(code))
	if !c.Dead() {
		t.Error("not dead")
	}
	says(t, c, goAway(last, code))
}

func lost(code api.Code) api.Event { return api.Event{Kind: api.ELost, Code: code} }

func wasReset(id int, code api.Code) api.Event {
	return api.Event{Kind: api.EReset, Stream: id, Code: code}
}

func list(s ...string) []api.Field {
	var l []api.Field
	for i := 0; i < len(s); i += 2 {
		l = append(l, api.Field{Name: s[i], Value: s[i+1]})
	}
	return l
}

func rows(s ...string) []api.Row {
	var l []api.Row
	for _, f := range list(s...) {
		l = append(l, api.Row{Field: f, How: 1})
	}
	return l
}

func got(id int, end bool) api.Event {
	return api.Event{Kind: api.EHead, Stream: id, Fields: list(":method", "GET", ":scheme", "https", ":path", "/"), End: end}
}

func gotData(id int, s string, end bool) api.Event {
	return api.Event{Kind: api.EData, Stream: id, Body: s, End: end}
}

// streams checks the streams that are there, as pairs of number and state.
func streams(t *testing.T, c *Conn, want ...int) {
	t.Helper()
	ids, states := c.Streams()
	var l []int
	for i := range ids {
		l = append(l, ids[i], states[i])
	}
	if !slices.Equal(l, want) || len(ids) != len(states) {
		t.Error("streams:", l)
	}
}

func TestP24_1New(t *testing.T) {
	s := made(t, true, small)
	want := []byte{0, 0, 0x12, 4, 0, 0, 0, 0, 0, 0, 3, 0, 0, 0, 2, 0, 4, 0, 0, 0xff, 0xff, 0, 6, 0, 1, 0, 0}
	if s.Waiting() != len(want) || s.Dead() || s.Peer() != setting.First() {
		t.Error(s.Waiting())
	}
	if b := s.Out(1000); !bytes.Equal(b, want) {
		t.Errorf("% x", b)
	}
	c := made(t, false, api.Config{Streams: 100, Window: 70000, List: 1})
	want = frame.Put([]byte(frame.Preface), settings(api.Setting{Id: 2, Value: 0}, api.Setting{Id: 3, Value: 100}, api.Setting{Id: 4, Value: 70000}, api.Setting{Id: 6, Value: 1}))
	if b := c.Out(1000); !bytes.Equal(b, want) {
		t.Errorf("% x", b)
	}
	streams(t, c)
	made(t, true, api.Config{Streams: 1, Window: api.MaxWindow, List: api.MaxList})
	for _, x := range [][3]int{{0, 65535, 1}, {101, 65535, 1}, {1, 65534, 1}, {1, 1 << 31, 1}, {1, 65535, 0}, {1, 65535, 1<<20 + 1}, {-1, -1, -1}, {math.MaxInt64, math.MaxInt64, math.MaxInt64}} {
		own := api.Config{Streams: x[0], Window: x[1], List: x[2]}
		for _, server := range []bool{true, false} {
			if c, no := New(server, own); c != nil || no != api.ErrArg {
				t.Error(own, no)
			}
		}
	}
}

func TestP24Examples(t *testing.T) {
	s, c := made(t, true, small), made(t, false, small)
	so := s.Out(1000)
	happens(t, s, c.Out(1000))
	happens(t, c, so)
	id, ok := c.Start(rows(":method", "GET"), true)
	if id != 1 || !ok {
		t.Error(id, ok)
	}
	happens(t, s, c.Out(1000), api.Event{Kind: api.EHead, Stream: 1, Fields: list(":method", "GET"), End: true})
	if !s.Head(1, rows(":status", "200"), false) {
		t.Error("head")
	}
	if n, ok := s.Data(1, "ab", true); n != 2 || !ok {
		t.Error(n, ok)
	}
	happens(t, c, s.Out(1000), api.Event{Kind: api.EHead, Stream: 1, Fields: list(":status", "200")}, gotData(1, "ab", true))
	happens(t, s, wire(fr(api.TPing, 0, 0, make([]byte, 7)...)), lost(api.FrameSize))
	streams(t, s)
}

func TestP24_2FirstFrame(t *testing.T) {
	for _, f := range []api.Frame{ack(), fr(api.TPing, 0, 0, make([]byte, 8)...), get(1, true), fr(99, 0, 0), fr(api.TContinuation, 0, 1), fr(api.TPing, 0, 0), more(0, 1)} {
		c := made(t, false, small)
		c.Out(1000)
		dies(t, c, api.Protocol, 0, f)
	}
	c := made(t, true, small)
	c.Out(1000)
	happens(t, c, []byte("PRI * HTTP/1"), lost(api.Protocol))
	says(t, c, goAway(0, api.Protocol))
	c = made(t, true, small)
	c.Out(1000)
	happens(t, c, wire(settings()), lost(api.Protocol))
	// An error of the reader comes behind the frames before it.
	c = begun(t, true, small)
	happens(t, c, append(wire(get(1, false)), 0, 0x40, 1, 0, 0, 0, 0, 0, 1), got(1, false), lost(api.FrameSize))
	says(t, c, goAway(1, api.FrameSize))
	happens(t, c, wire(get(3, false)))
}

func TestP24_2Blocks(t *testing.T) {
	start := func() *Conn {
		c := begun(t, true, small)
		happens(t, c, wire(fr(api.THeaders, 0, 1, 0x82)))
		return c
	}
	for _, f := range []api.Frame{fr(api.TContinuation, api.FFields, 3), fr(api.TPing, 0, 0, make([]byte, 8)...), settings(), fr(99, 0, 1), get(1, true), data(1, "", true), rst(1, 0)} {
		dies(t, start(), api.Protocol, 0, f)
	}
	dies(t, begun(t, true, small), api.Protocol, 0, fr(api.TContinuation, api.FFields, 1))
	c := start()
	happens(t, c, wire(fr(api.TContinuation, api.FEnd, 1, 0x87), fr(api.TContinuation, 0, 1)))
	streams(t, c)
	happens(t, c, wire(fr(api.TContinuation, api.FFields, 1, 0x84)), got(1, false))
	streams(t, c, 1, stream.Open)
	dies(t, c, api.Protocol, 1, fr(api.TContinuation, api.FFields, 1))
	c = begun(t, true, small)
	happens(t, c, wire(fr(api.THeaders, api.FEnd, 1, 0x82, 0x87), fr(api.TContinuation, api.FFields, 1, 0x84)), got(1, true))
	streams(t, c, 1, stream.HalfRemote)
}

func TestP24_2ShapeErrors(t *testing.T) {
	for _, c := range []struct {
		f    api.Frame
		code api.Code
	}{{fr(api.TPing, 0, 1), api.Protocol}, {fr(api.TReset, 0, 1, 0), api.FrameSize}, {fr(api.TPush, 4, 1, 0, 0, 0, 2), api.Protocol}, {settings(api.Setting{Id: 4, Value: 1 << 31}), api.FlowControl}, {fr(api.THeaders, 0x24, 1, 0, 0, 0, 1, 0), api.Protocol}, {fr(api.TPriority, 0, 1, 0), api.FrameSize}, {fr(api.TPriority, 0, 7, 0, 0, 0, 7, 0), api.Protocol}, {more(2, 0), api.Protocol}, {fr(api.TWindow, 0, 1, 0), api.FrameSize}} {
		dies(t, begun(t, true, small), c.code, 0, c.f)
	}
	// Of a stream that is there, of a muted one, and of a closed one.
	c := begun(t, true, small)
	happens(t, c, wire(get(3, false)), got(3, false))
	happens(t, c, wire(fr(api.TPriority, 0, 3, 0)), wasReset(3, api.FrameSize))
	says(t, c, rst(3, api.FrameSize))
	streams(t, c)
	happens(t, c, wire(fr(api.TPriority, 0, 3, 0), more(3, 0)))
	says(t, c)
	happens(t, c, wire(more(1, 0)))
	says(t, c, rst(1, api.Protocol))
	happens(t, c, wire(fr(api.TPriority, 0, 1, 0, 0, 0, 1, 0)))
	says(t, c)
	dies(t, c, api.Protocol, 3, fr(api.THeaders, 0x24, 3, 0, 0, 0, 3, 0))
}

func TestP24_2NothingHappens(t *testing.T) {
	c := begun(t, true, small)
	happens(t, c, wire(ack(), ack(), fr(api.TPriority, 0, 9, 0, 0, 0, 1, 0), fr(10, 255, 77, 1, 2), fr(255, 0, 0), fr(api.TPing, api.FAck, 0, make([]byte, 8)...)))
	says(t, c)
	streams(t, c)
	if c.Peer() != setting.First() {
		t.Error(c.Peer())
	}
}

func TestP24_2Settings(t *testing.T) {
	c := begun(t, true, small)
	happens(t, c, wire(settings(api.Setting{Id: 1, Value: 100}, api.Setting{Id: 3, Value: 7}, api.Setting{Id: 4, Value: 9}, api.Setting{Id: 5, Value: 20000}, api.Setting{Id: 6, Value: 8}, api.Setting{Id: 9, Value: 1}, api.Setting{Id: 4, Value: 10})))
	says(t, c, ack())
	if c.Peer() != (setting.Set{Table: 100, Streams: 7, Window: 10, Frame: 20000, List: 8}) {
		t.Error(c.Peer())
	}
	happens(t, c, wire(settings(), settings()))
	says(t, c, ack(), ack())
}

func TestP24_2SettingsOfTheTable(t *testing.T) {
	for _, x := range []struct {
		l    []api.Setting
		want []byte
	}{
		{nil, nil},
		{[]api.Setting{{Id: 1, Value: 4096}}, nil},
		{[]api.Setting{{Id: 1, Value: 1<<32 - 1}}, nil},
		{[]api.Setting{{Id: 1, Value: 0}}, []byte{0x20}},
		{[]api.Setting{{Id: 1, Value: 0}, {Id: 1, Value: 5000}}, []byte{0x20, 0x3f, 0xe1, 0x1f}},
		{[]api.Setting{{Id: 1, Value: 100}, {Id: 1, Value: 100}}, []byte{0x3f, 0x45}},
	} {
		c := begun(t, true, small, x.l...)
		happens(t, c, wire(get(1, true)), got(1, true))
		if !c.Head(1, rows(":status", "200"), true) {
			t.Error("head")
		}
		says(t, c, fr(api.THeaders, 5, 1, append(x.want, 0x88)...))
	}
}

func TestP24_2SettingsOfTheWindow(t *testing.T) {
	c := begun(t, true, small)
	happens(t, c, wire(get(1, true), more(0, 100000)), got(1, true))
	c.Head(1, rows(":status", "200"), false)
	c.Out(100)
	if n, ok := c.Data(1, strings.Repeat("x", 80), false); n != 80 || !ok {
		t.Error(n, ok)
	}
	happens(t, c, wire(settings(api.Setting{Id: 4, Value: 10})))
	if n, ok := c.Data(1, "yyy", false); n != 0 || !ok {
		t.Error("70 below zero", n, ok)
	}
	happens(t, c, wire(more(1, 71)))
	if n, ok := c.Data(1, "yyy", false); n != 1 || !ok {
		t.Error(n, ok)
	}
	happens(t, c, wire(settings(api.Setting{Id: 4, Value: 12}), get(3, true)), got(3, true))
	if n, ok := c.Data(1, "yyy", false); n != 2 || !ok {
		t.Error(n, ok)
	}
	c.Head(3, rows(":status", "200"), false)
	if n, ok := c.Data(3, strings.Repeat("z", 20), false); n != 12 || !ok {
		t.Error("a new stream has the new window", n, ok)
	}
	c.Out(math.MaxInt64)
	happens(t, c, wire(more(3, api.MaxWindow)))
	dies(t, c, api.FlowControl, 3, settings(api.Setting{Id: 4, Value: 13}))
}

func TestP24_2PingAndGoAway(t *testing.T) {
	c := begun(t, false, small)
	eight := []byte("12345678")
	happens(t, c, wire(fr(api.TPing, 0, 0, eight...), fr(api.TPing, api.FAck, 0, eight...)))
	says(t, c, fr(api.TPing, api.FAck, 0, eight...))
	if id, ok := c.Start(rows("a", "b"), false); id != 1 || !ok {
		t.Error(id, ok)
	}
	happens(t, c, wire(goAway(5, 77)), api.Event{Kind: api.EGone, Stream: 5, Code: 77})
	if id, ok := c.Start(rows("a", "b"), true); id != 0 || ok {
		t.Error(id, ok)
	}
	streams(t, c, 1, stream.Open)
	happens(t, c, wire(goAway(0, 0)), api.Event{Kind: api.EGone})
	if c.Dead() {
		t.Error("dead")
	}
}

func TestP24_2WindowUpdate(t *testing.T) {
	dies(t, begun(t, true, small), api.FlowControl, 0, more(0, api.MaxWindow-65534))
	dies(t, begun(t, true, small), api.Protocol, 0, more(1, 1))
	dies(t, begun(t, true, small), api.Protocol, 0, more(2, 1))
	c := begun(t, true, small)
	happens(t, c, wire(more(0, api.MaxWindow-65535)))
	happens(t, c, wire(get(5, false), more(5, api.MaxWindow-65535), more(3, 5)), got(5, false))
	says(t, c)
	happens(t, c, wire(more(5, 1)), wasReset(5, api.FlowControl))
	says(t, c, rst(5, api.FlowControl))
	happens(t, c, wire(more(5, 1)))
	says(t, c)
	dies(t, begun(t, false, small), api.Protocol, 0, more(1, 1))
	b := begun(t, false, small)
	b.Start(rows("a", "b"), false)
	b.Out(1000)
	dies(t, b, api.Protocol, 0, more(3, 1))
}

func TestP24_2Reset(t *testing.T) {
	dies(t, begun(t, true, small), api.Protocol, 0, rst(1, api.Cancel))
	dies(t, begun(t, true, small), api.Protocol, 0, rst(2, api.Cancel))
	c := begun(t, true, small)
	happens(t, c, wire(get(3, false), rst(3, 99)), got(3, false), wasReset(3, 99))
	happens(t, c, wire(rst(3, 1), rst(1, 1)))
	says(t, c)
	streams(t, c)
	// It was not this end that reset it: it is not muted.
	happens(t, c, wire(data(3, "a", false)))
	says(t, c, rst(3, api.StreamClosed), more(0, 1))
	dies(t, begun(t, false, small), api.Protocol, 0, rst(1, api.Cancel))
}

func TestP24_2Data(t *testing.T) {
	dies(t, begun(t, true, small), api.Protocol, 0, data(1, "a", false))
	dies(t, begun(t, true, small), api.Protocol, 0, data(4, "a", false))
	c := begun(t, true, small)
	happens(t, c, wire(get(1, false), data(1, "abc", false), data(1, "", false), fr(api.TData, api.FPadded|api.FEnd, 1, 2, 'd', 0, 0)),
		got(1, false), gotData(1, "abc", false), gotData(1, "", false), gotData(1, "d", true))
	// Behind the end, the padding is returned for the connection alone.
	says(t, c, more(0, 3))
	streams(t, c, 1, stream.HalfRemote)
	happens(t, c, wire(data(1, "e", false)), wasReset(1, api.StreamClosed))
	says(t, c, rst(1, api.StreamClosed), more(0, 1))
	happens(t, c, wire(data(1, "ef", true), data(1, "", true)))
	says(t, c, more(0, 2))
	happens(t, c, wire(get(5, false), fr(api.TData, api.FPadded, 5, 1, 'd', 0)), got(5, false), gotData(5, "d", false))
	says(t, c, more(5, 2), more(0, 2))
	happens(t, c, wire(fr(api.TData, api.FPadded, 3, 1, 'd', 0)))
	says(t, c, rst(3, api.StreamClosed), more(0, 3))
	happens(t, c, wire(data(3, "", true)))
	says(t, c)
}

func TestP24_2DataBeforeTheHead(t *testing.T) {
	c := begun(t, false, small)
	c.Start(rows("a", "b"), true)
	c.Start(rows("a", "b"), false)
	c.Out(1000)
	happens(t, c, wire(data(1, "ab", false)), wasReset(1, api.Protocol))
	says(t, c, rst(1, api.Protocol), more(0, 2))
	interim := fr(api.THeaders, api.FFields, 3, append([]byte{0x08, 3}, "103"...)...)
	happens(t, c, wire(interim, data(3, "", false)), api.Event{Kind: api.EHead, Stream: 3, Fields: list(":status", "103")}, wasReset(3, api.Protocol))
	says(t, c, rst(3, api.Protocol))
}

func TestP24_2DataAndWindows(t *testing.T) {
	own := api.Config{Streams: 3, Window: 100000, List: 65536}
	chunk := strings.Repeat("x", api.MinFrame)
	// The connection's window is 65535, whatever a stream's is.
	c := begun(t, true, own)
	happens(t, c, wire(get(1, false)), got(1, false))
	for range 3 {
		happens(t, c, wire(data(1, chunk, false)), gotData(1, chunk, false))
	}
	happens(t, c, wire(data(1, chunk[:16383], false)), gotData(1, chunk[:16383], false))
	dies(t, c, api.FlowControl, 1, data(1, "y", false))
	// A stream's window.
	c = begun(t, true, small)
	happens(t, c, wire(get(1, false), get(3, false)), got(1, false), got(3, false))
	if !c.Credit(3, 5) {
		t.Error("credit")
	}
	c.Out(100)
	for range 3 {
		happens(t, c, wire(data(1, chunk, false)), gotData(1, chunk, false))
	}
	happens(t, c, wire(data(1, chunk[:16383], false)), gotData(1, chunk[:16383], false))
	happens(t, c, wire(data(1, "abc", true)), wasReset(1, api.FlowControl))
	says(t, c, rst(1, api.FlowControl), more(0, 3))
	happens(t, c, wire(data(3, "abcde", false)), gotData(3, "abcde", false))
	dies(t, c, api.FlowControl, 3, data(3, "f", false))
	// Even a muted stream's DATA counts.
	c = begun(t, true, small)
	happens(t, c, wire(get(1, false)), got(1, false))
	c.Reset(1, api.Cancel)
	happens(t, c, wire(get(3, false), data(3, chunk, false), data(3, chunk, false), data(3, chunk, false)), got(3, false), gotData(3, chunk, false), gotData(3, chunk, false), gotData(3, chunk, false))
	c.Out(100)
	dies(t, c, api.FlowControl, 3, data(1, chunk, false))
}

func TestP24_2HeadsOnServer(t *testing.T) {
	c := begun(t, true, small)
	happens(t, c, wire(get(3, true)), got(3, true))
	happens(t, c, wire(get(5, false)), got(5, false))
	streams(t, c, 3, stream.HalfRemote, 5, stream.Open)
	// As many as are allowed; the number counts all the same.
	happens(t, c, wire(get(9, true)))
	says(t, c, rst(9, api.Refused))
	streams(t, c, 3, stream.HalfRemote, 5, stream.Open)
	happens(t, c, wire(get(9, true), get(9, false)))
	says(t, c)
	happens(t, c, wire(get(7, true)))
	says(t, c, rst(7, api.StreamClosed))
	happens(t, c, wire(get(3, true)), wasReset(3, api.StreamClosed))
	says(t, c, rst(3, api.StreamClosed))
	// Trailers, and a second head without the end.
	happens(t, c, wire(get(11, false), get(11, true)), got(11, false), api.Event{Kind: api.ETail, Stream: 11, Fields: got(1, true).Fields, End: true})
	streams(t, c, 5, stream.Open, 11, stream.HalfRemote)
	happens(t, c, wire(get(5, false)), wasReset(5, api.Protocol))
	says(t, c, rst(5, api.Protocol))
	dies(t, c, api.Protocol, 11, get(12, true))
}

func TestP24_2HeadsOnClient(t *testing.T) {
	status := func(id int, s string, end bool) api.Frame {
		f := fr(api.THeaders, api.FFields, id, append([]byte{0x08, byte(len(s))}, s...)...)
		if end {
			f.Flags |= api.FEnd
		}
		return f
	}
	head := func(kind, id int, s string, end bool) api.Event {
		return api.Event{Kind: kind, Stream: id, Fields: list(":status", s), End: end}
	}
	start := func(end bool) *Conn {
		c := begun(t, false, small)
		c.Start(rows("a", "b"), end)
		c.Out(1000)
		return c
	}
	dies(t, start(true), api.Protocol, 0, status(3, "200", true))
	dies(t, start(true), api.Protocol, 0, status(2, "200", true))
	c := start(true)
	happens(t, c, wire(status(1, "100", false), status(1, "103", false), status(1, "200", false), data(1, "a", false), status(1, "0", true)),
		head(api.EHead, 1, "100", false), head(api.EHead, 1, "103", false), head(api.EHead, 1, "200", false), gotData(1, "a", false), head(api.ETail, 1, "0", true))
	streams(t, c)
	happens(t, c, wire(status(1, "200", true)))
	says(t, c, rst(1, api.StreamClosed))
	for _, s := range []string{"10", "1000", "200", "x10", ""} {
		c = start(false)
		happens(t, c, wire(status(1, s, false), status(1, "200", false)), head(api.EHead, 1, s, false), wasReset(1, api.Protocol))
	}
	c = start(false)
	happens(t, c, wire(status(1, "100", true)), head(api.EHead, 1, "100", true))
	streams(t, c, 1, stream.HalfRemote)
	c = start(false)
	block := fr(api.THeaders, api.FFields, 1, append([]byte{0, 1, 'x', 1, 'y', 0x08, 3}, "100"...)...)
	happens(t, c, wire(block, status(1, "200", false)), api.Event{Kind: api.EHead, Stream: 1, Fields: list("x", "y", ":status", "100")}, wasReset(1, api.Protocol))
	c = start(false)
	happens(t, c, wire(fr(api.THeaders, api.FFields, 1), fr(api.THeaders, api.FFields|api.FEnd, 1)), api.Event{Kind: api.EHead, Stream: 1}, api.Event{Kind: api.ETail, Stream: 1, End: true})
	// For a server, a head that looks so is a head.
	s := begun(t, true, small)
	happens(t, s, wire(status(1, "100", false), status(1, "100", false)), head(api.EHead, 1, "100", false), wasReset(1, api.Protocol))
}

func TestP24_2BadBlocks(t *testing.T) {
	dies(t, begun(t, true, small), api.Compression, 0, fr(api.THeaders, api.FFields, 1, 0x80))
	dies(t, begun(t, true, small), api.Compression, 0, fr(api.THeaders, api.FFields, 1, 0x40))
	dies(t, begun(t, true, small), api.Compression, 0, fr(api.THeaders, api.FFields, 2, 0x3f, 0xe2, 0x1f))
	dies(t, begun(t, true, api.Config{Streams: 1, Window: 65535, List: 41}), api.Calm, 0, fr(api.THeaders, api.FFields, 1, 0x82))
	dies(t, begun(t, true, small), api.Calm, 0, fr(api.THeaders, api.FFields, 1, 0, 0, 0x7f, 0x82, 0xff, 3))
	// A block of MaxBlock bytes, and one more.
	for extra := range 2 {
		c := begun(t, true, api.Config{Streams: 1, Window: 65535, List: api.MaxList})
		// Two fields with values of so many bytes that the block has MaxBlock.
		p, _ := pack.New(0)
		n := (api.MaxBlock - 2*7) / 2
		b := p.Block([]api.Row{{Field: api.Field{Name: "a", Value: strings.Repeat("\x01", n)}}, {Field: api.Field{Name: "b", Value: strings.Repeat("\x01", n+extra)}}})
		for len(b) > api.MinFrame {
			f := fr(api.TContinuation, 0, 1, b[:api.MinFrame]...)
			if len(b) > api.MaxBlock-api.MinFrame+extra {
				f.Type = api.THeaders
			}
			happens(t, c, wire(f))
			b = b[api.MinFrame:]
		}
		if extra == 0 && len(b) != api.MinFrame {
			t.Fatal(len(b))
		}
		events := c.Feed(wire(fr(api.TContinuation, api.FFields, 1, b...)))
		if extra == 0 && (len(events) != 1 || events[0].Kind != api.EHead || len(events[0].Fields) != 2) {
			t.Error(len(events))
		}
		if extra == 1 && (len(events) != 1 || events[0].Code != api.Calm || !c.Dead()) {
			t.Error(len(events))
		}
	}
}

func TestP24_3MutedStreamsAreForgotten(t *testing.T) {
	c := begun(t, true, small)
	for i := range api.MaxMute + 1 {
		id := 2*i + 1
		happens(t, c, wire(get(id, false)), got(id, false))
		if !c.Reset(id, api.Cancel) {
			t.Error(id)
		}
		says(t, c, rst(id, api.Cancel))
	}
	// The second one is muted still, the first one is forgotten.
	happens(t, c, wire(get(3, true), data(3, "a", true)))
	says(t, c, more(0, 1))
	happens(t, c, wire(get(1, true)))
	says(t, c, rst(1, api.StreamClosed))
	// Now it is the last one, and the second one is forgotten.
	happens(t, c, wire(get(1, true), get(5, true)))
	says(t, c)
	happens(t, c, wire(get(3, true)))
	says(t, c, rst(3, api.StreamClosed))
}

// fill makes the queue exactly n bytes long by replies to PING.
func fill(t *testing.T, c *Conn, n int) {
	t.Helper()
	c.Out(math.MaxInt64)
	for c.Waiting()+17 <= n {
		happens(t, c, wire(fr(api.TPing, 0, 0, make([]byte, 8)...)))
	}
	left := n - c.Waiting()
	if left == 0 {
		return
	}
	c.Out(17 - left)
	happens(t, c, wire(fr(api.TPing, 0, 0, make([]byte, 8)...)))
	if c.Waiting() != n {
		t.Fatal(c.Waiting(), n)
	}
}

func TestP24_3FullQueue(t *testing.T) {
	c := begun(t, true, small)
	fill(t, c, api.MaxQueue)
	happens(t, c, wire(get(1, false), fr(api.TPing, 0, 0, make([]byte, 8)...), get(3, false)), got(1, false), lost(api.Calm))
	if c.Waiting() != api.MaxQueue+17 || !c.Dead() {
		t.Error(c.Waiting())
	}
	if b := c.Out(math.MaxInt64); !bytes.Equal(b[api.MaxQueue:], wire(goAway(1, api.Calm))) {
		t.Error("the last bytes are the GOAWAY")
	}
	// A stream error: EReset comes behind its reply.
	c = begun(t, true, small)
	happens(t, c, wire(get(1, false)), got(1, false))
	fill(t, c, api.MaxQueue-12)
	happens(t, c, wire(fr(api.TPriority, 0, 1, 0)), lost(api.Calm))
	c = begun(t, true, small)
	happens(t, c, wire(get(1, true)), got(1, true))
	fill(t, c, api.MaxQueue-13)
	happens(t, c, wire(data(1, "ab", false)), wasReset(1, api.StreamClosed), lost(api.Calm))
	// DATA: the padding is returned before EData.
	c = begun(t, true, small)
	happens(t, c, wire(get(1, false)), got(1, false))
	fill(t, c, api.MaxQueue-25)
	happens(t, c, wire(data(1, "ab", false), fr(api.TData, api.FPadded, 1, 1, 'd', 0)), gotData(1, "ab", false), lost(api.Calm))
	if c.Waiting() != api.MaxQueue-25+13+17 {
		t.Error(c.Waiting())
	}
	// Outside Feed there is no event.
	c = begun(t, true, small)
	happens(t, c, wire(get(1, false)), got(1, false))
	fill(t, c, api.MaxQueue-12)
	if c.Reset(1, api.Cancel) || !c.Dead() {
		t.Error("reset")
	}
	happens(t, c, wire(get(3, false)))
	streams(t, c)
}

func TestP24_3DeadConnections(t *testing.T) {
	for _, server := range []bool{true, false} {
		c := begun(t, server, small)
		if !c.Shut(0x1_0000_0007) || !c.Dead() {
			t.Error("shut")
		}
		says(t, c, goAway(0, 7))
		happens(t, c, wire(settings(api.Setting{Id: 4, Value: 5})))
		if id, ok := c.Start(nil, true); id != 0 || ok {
			t.Error("start")
		}
		if n, ok := c.Data(1, "", false); n != 0 || ok {
			t.Error("data")
		}
		if c.Head(1, nil, true) || c.Reset(1, 0) || c.Credit(1, 1) || c.Credit(0, 1) || c.Shut(0) {
			t.Error("a dead connection does something")
		}
		if c.Waiting() != 0 || len(c.Out(5)) != 0 || c.Peer() != setting.First() {
			t.Error("dead")
		}
	}
	c := begun(t, true, small)
	happens(t, c, wire(get(7, false), get(9, false)), got(7, false), got(9, false))
	c.Shut(api.NoError)
	says(t, c, goAway(9, 0))
	streams(t, c)
}

func TestP24_4Start(t *testing.T) {
	c := made(t, false, small)
	c.Out(100)
	// Before any SETTINGS came, many streams may start.
	for i := range 150 {
		if id, ok := c.Start(rows(":method", "GET"), i%2 == 0); id != 2*i+1 || !ok {
			t.Fatal(i, id, ok)
		}
		says(t, c, fr(api.THeaders, 4+1-i%2, 2*i+1, 0x82))
	}
	s := begun(t, true, small)
	if id, ok := s.Start(rows("a", "b"), false); id != 0 || ok {
		t.Error("a server starts no stream")
	}
	c = begun(t, false, small, api.Setting{Id: 3, Value: 1})
	c.Start(rows("a", "b"), true)
	streams(t, c, 1, stream.HalfLocal)
	if id, ok := c.Start(rows("a", "b"), true); id != 0 || ok {
		t.Error("more than the other end allows")
	}
	c.Reset(1, api.Cancel)
	if id, ok := c.Start(nil, false); id != 3 || !ok {
		t.Error(id, ok)
	}
	streams(t, c, 3, stream.Open)
	c.next = api.MaxStream
	c.Reset(3, api.Cancel)
	if id, ok := c.Start(nil, false); id != api.MaxStream || !ok {
		t.Error(id, ok)
	}
	c.Reset(api.MaxStream, api.Cancel)
	if id, ok := c.Start(nil, false); id != 0 || ok {
		t.Error("no numbers are left")
	}
}

func TestP24_4Fit(t *testing.T) {
	long := strings.Repeat("x", api.MaxText-33)
	for _, c := range []struct {
		l    []api.Row
		want bool
	}{{rows("a", long), true}, {rows("a", long+"x"), false}, {rows(long, "a"), true}, {rows("", strings.Repeat("x", api.MaxText+1)), false}, {rows(strings.Repeat("x", api.MaxText+1), ""), false}, {rows("a", long[32:], "", ""), true}, {rows("a", long[31:], "", ""), false}, {nil, true}} {
		b := begun(t, false, small)
		if id, ok := b.Start(c.l, true); ok != c.want || id == 1 != c.want {
			t.Error(len(c.l), id, ok)
		}
		s := begun(t, true, small)
		happens(t, s, wire(get(1, true)), got(1, true))
		if ok := s.Head(1, c.l, true); ok != c.want {
			t.Error(len(c.l), ok)
		}
	}
}

func TestP24_4Continuation(t *testing.T) {
	c := begun(t, false, small)
	value := strings.Repeat("\x01", 40000)
	if _, ok := c.Start(rows("a", value), true); !ok {
		t.Fatal("start")
	}
	p, _ := pack.New(4096)
	b := p.Block(rows("a", value))
	m := api.MinFrame
	says(t, c, fr(api.THeaders, api.FEnd, 1, b[:m]...), fr(api.TContinuation, 0, 1, b[m:2*m]...), fr(api.TContinuation, api.FFields, 1, b[2*m:]...))
	// A block of just one frame, and the other end's greater frames.
	value = strings.Repeat("\x01", m-6)
	c.Start(rows("a", value), false)
	b = p.Block(rows("a", value))
	if len(b) != m {
		t.Fatal(len(b))
	}
	says(t, c, fr(api.THeaders, api.FFields, 3, b...))
	c.Reset(3, 0)
	c.Out(100)
	happens(t, c, wire(settings(api.Setting{Id: 5, Value: m + 1})))
	says(t, c, ack())
	value += "\x01"
	c.Start(rows("a", value), false)
	says(t, c, fr(api.THeaders, api.FFields, 5, p.Block(rows("a", value))...))
}

func TestP24_4Space(t *testing.T) {
	c := begun(t, false, small)
	fill(t, c, half)
	if id, ok := c.Start(nil, true); id != 0 || ok {
		t.Error("no space")
	}
	c.Out(1)
	if id, ok := c.Start(nil, false); id != 1 || !ok {
		t.Error(id, ok)
	}
	s := begun(t, true, small)
	happens(t, s, wire(get(1, true)), got(1, true))
	fill(t, s, half)
	if s.Head(1, rows("a", "b"), false) {
		t.Error("no space")
	}
	s.Out(1)
	if !s.Head(1, rows("a", "b"), false) {
		t.Error("space")
	}
}

func TestP24_4Head(t *testing.T) {
	c := begun(t, true, small)
	if c.Head(1, nil, true) {
		t.Error("not there")
	}
	happens(t, c, wire(get(1, false), get(3, true)), got(1, false), got(3, true))
	if !c.Head(1, rows(":status", "200"), false) || c.Head(1, rows(":status", "200"), false) {
		t.Error("a head comes once")
	}
	if !c.Head(1, rows(":status", "204"), true) || c.Head(1, nil, true) {
		t.Error("trailers come once")
	}
	says(t, c, fr(api.THeaders, 4, 1, 0x88), fr(api.THeaders, 5, 1, 0x89))
	streams(t, c, 1, stream.HalfLocal, 3, stream.HalfRemote)
	if !c.Head(3, rows(":status", "404"), true) {
		t.Error("3")
	}
	streams(t, c, 1, stream.HalfLocal)
	happens(t, c, wire(data(1, "", true)), gotData(1, "", true))
	streams(t, c)
	// A client's trailers.
	b := begun(t, false, small)
	b.Start(nil, false)
	if b.Head(1, nil, false) || !b.Head(1, rows(":status", "200"), true) || b.Head(1, nil, true) {
		t.Error("a client's trailers")
	}
	streams(t, b, 1, stream.HalfLocal)
}

func TestP24_5Data(t *testing.T) {
	c := begun(t, true, small)
	happens(t, c, wire(get(1, false), get(3, true)), got(1, false), got(3, true))
	for _, id := range []int{1, 3, 5, 0, -1} {
		if n, ok := c.Data(id, "a", true); n != 0 || ok {
			t.Error("no head was sent", id)
		}
	}
	c.Head(1, nil, false)
	c.Head(3, nil, false)
	c.Out(100)
	if n, ok := c.Data(1, "abc", false); n != 3 || !ok {
		t.Error(n, ok)
	}
	if n, ok := c.Data(1, "", false); n != 0 || !ok {
		t.Error(n, ok)
	}
	if n, ok := c.Data(1, "", true); n != 0 || !ok {
		t.Error(n, ok)
	}
	if n, ok := c.Data(3, "de", true); n != 2 || !ok {
		t.Error(n, ok)
	}
	says(t, c, data(1, "abc", false), data(1, "", true), data(3, "de", true))
	streams(t, c, 1, stream.HalfLocal)
	if n, ok := c.Data(1, "", false); n != 0 || ok {
		t.Error("the end was sent")
	}
}

func TestP24_5DataIsCut(t *testing.T) {
	text := strings.Repeat("x", 70000)
	m := api.MinFrame
	c := begun(t, true, small)
	happens(t, c, wire(get(1, true), get(3, true)), got(1, true), got(3, true))
	c.Head(1, nil, false)
	c.Head(3, nil, false)
	c.Out(100)
	// The connection's window and the stream's are the same.
	if n, ok := c.Data(1, text, true); n != 65535 || !ok {
		t.Error(n, ok)
	}
	says(t, c, data(1, text[:m], false), data(1, text[:m], false), data(1, text[:m], false), data(1, text[:m-1], false))
	happens(t, c, wire(more(1, 10)))
	if n, ok := c.Data(1, text, true); n != 0 || !ok {
		t.Error("the connection's window", n, ok)
	}
	if n, ok := c.Data(3, "a", true); n != 0 || !ok {
		t.Error("the connection's window", n, ok)
	}
	if n, ok := c.Data(3, "", true); n != 0 || !ok {
		t.Error("an end needs no window", n, ok)
	}
	says(t, c, data(3, "", true))
	happens(t, c, wire(more(0, 100)))
	if n, ok := c.Data(1, text[:10], true); n != 10 || !ok {
		t.Error(n, ok)
	}
	says(t, c, data(1, text[:10], true))
	streams(t, c)
	// Greater frames.
	c = begun(t, true, small, api.Setting{Id: 5, Value: 20000})
	happens(t, c, wire(get(1, true)), got(1, true))
	c.Head(1, nil, false)
	c.Out(100)
	c.Data(1, text[:20001], false)
	says(t, c, data(1, text[:20000], false), data(1, "x", false))
}

func TestP24_5DataAndTheQueue(t *testing.T) {
	c := begun(t, true, small, api.Setting{Id: 4, Value: 1 << 20})
	happens(t, c, wire(get(1, true), more(0, 1<<20)), got(1, true))
	c.Head(1, nil, false)
	fill(t, c, half-5)
	if n, ok := c.Data(1, "1234567", true); n != 5 || !ok {
		t.Error(n, ok)
	}
	if c.Waiting() != half+9 {
		t.Error(c.Waiting())
	}
	if n, ok := c.Data(1, "67", true); n != 0 || !ok {
		t.Error(n, ok)
	}
	if n, ok := c.Data(1, "", true); n != 0 || ok {
		t.Error("an end needs space", n, ok)
	}
	if n, ok := c.Data(1, "", false); n != 0 || !ok {
		t.Error(n, ok)
	}
	c.Out(9)
	if n, ok := c.Data(1, "", true); n != 0 || ok {
		t.Error(n, ok)
	}
	c.Out(1)
	if n, ok := c.Data(1, "", true); n != 0 || !ok {
		t.Error(n, ok)
	}
	streams(t, c)
	// A long text is cut at half of the queue.
	c = begun(t, true, small, api.Setting{Id: 4, Value: 1 << 20})
	happens(t, c, wire(get(1, true), more(0, 1<<20)), got(1, true))
	c.Head(1, nil, false)
	c.Out(1000)
	n, ok := c.Data(1, strings.Repeat("x", 200000), true)
	if want := half - 7*9; n != want || !ok || c.Waiting() != half+9 {
		t.Error(n, want, c.Waiting())
	}
}

func TestP24_6ResetAndCredit(t *testing.T) {
	c := begun(t, true, small)
	happens(t, c, wire(get(1, false), get(3, true)), got(1, false), got(3, true))
	if !c.Reset(3, -1) || c.Reset(3, 0) || c.Reset(5, 0) {
		t.Error("reset")
	}
	says(t, c, fr(api.TReset, 0, 3, 255, 255, 255, 255))
	if !c.Credit(1, 7) || !c.Credit(3, 8) || !c.Credit(99, 9) || !c.Credit(-4, 1) {
		t.Error("credit")
	}
	says(t, c, more(1, 7), more(0, 7), more(0, 8), more(0, 9), more(0, 1))
	for _, n := range []int{0, -1, math.MinInt64, math.MaxInt64, api.MaxWindow} {
		if c.Credit(1, n) || c.Credit(5, n) {
			t.Error(n)
		}
	}
	// The connection's window is 65535 and 25 now, the stream's 65535 and 7.
	if c.Credit(5, api.MaxWindow-65535-24) || !c.Credit(5, api.MaxWindow-65535-25) || c.Credit(5, 1) {
		t.Error("up to the edge")
	}
	big := begun(t, true, api.Config{Streams: 1, Window: api.MaxWindow, List: 1000})
	happens(t, big, wire(get(1, false)), got(1, false))
	if big.Credit(1, 1) || !big.Credit(3, 1) {
		t.Error("the stream's window")
	}
	happens(t, big, wire(data(1, "ab", false)), gotData(1, "ab", false))
	big.Out(100)
	if big.Credit(1, 3) || !big.Credit(1, 2) {
		t.Error("the stream's window")
	}
	says(t, big, more(1, 2), more(0, 2))
	// Behind the end, a stream's window isn't told, but it is asked.
	happens(t, big, wire(data(1, "ab", true)), gotData(1, "ab", true))
	if big.Credit(1, 3) || !big.Credit(1, 2) {
		t.Error("half closed")
	}
	says(t, big, more(0, 2))
	if !big.Credit(1, 2) {
		t.Error("the stream's window has not grown")
	}
}

func TestP24_6NumbersOfFourBytes(t *testing.T) {
	c := begun(t, true, api.Config{Streams: 1, Window: 65535, List: 1000})
	if !c.Credit(1, 0x01020304) {
		t.Error("credit")
	}
	says(t, c, fr(api.TWindow, 0, 0, 1, 2, 3, 4))
	happens(t, c, wire(get(0x050607, false)), got(0x050607, false))
	c.Reset(0x050607, 0x0a0b0c0d)
	c.Shut(0x11121314)
	says(t, c, fr(api.TReset, 0, 0x050607, 10, 11, 12, 13), fr(api.TGoAway, 0, 0, 0, 5, 6, 7, 0x11, 0x12, 0x13, 0x14))
}

func TestP24_6CreditMayKill(t *testing.T) {
	c := begun(t, true, small)
	happens(t, c, wire(get(1, false)), got(1, false))
	fill(t, c, api.MaxQueue-25)
	if c.Credit(1, 5) || !c.Dead() || c.Waiting() != api.MaxQueue-25+13+17 {
		t.Error(c.Waiting())
	}
	c = begun(t, true, small)
	fill(t, c, api.MaxQueue-13)
	if !c.Credit(1, 5) || c.Dead() || c.Credit(1, 5) || !c.Dead() {
		t.Error("credit")
	}
}

func TestP24_7Out(t *testing.T) {
	c := made(t, true, small)
	whole := made(t, true, small).Out(math.MaxInt64)
	if b := c.Out(-5); len(b) != 0 || c.Waiting() != 27 {
		t.Error(b)
	}
	if b := c.Out(0); len(b) != 0 || c.Waiting() != 27 {
		t.Error(b)
	}
	first := c.Out(10)
	if !bytes.Equal(first, whole[:10]) || c.Waiting() != 17 {
		t.Error(first)
	}
	first = append(first, "overwritten"...)
	clear(first)
	if b := c.Out(18); !bytes.Equal(b, whole[10:]) || c.Waiting() != 0 {
		t.Error(b)
	}
	if b := c.Out(1); len(b) != 0 {
		t.Error(b)
	}
}

func TestP24_8PiecesDoNotMatter(t *testing.T) {
	var all []byte
	all = append(all, frame.Preface...)
	all = append(all, wire(settings(api.Setting{Id: 1, Value: 0}), get(1, false), fr(api.TPing, 0, 0, []byte("abcdefgh")...), data(1, "abc", false), fr(api.THeaders, 0, 3, 0x82), fr(api.TContinuation, 4, 3, 0x84), get(5, true), fr(api.TData, 8, 1, 1, 'x', 0), get(1, true), data(1, "late", false), rst(3, 8), goAway(0, 0), more(7, 1), fr(api.TPing, 0, 0, []byte("abcdefgh")...))...)
	run := func(step int) ([]api.Event, []byte) {
		c := made(t, true, small)
		var events []api.Event
		for at := 0; at < len(all); at += step {
			piece := bytes.Clone(all[at:min(at+step, len(all))])
			events = append(events, c.Feed(piece)...)
			clear(piece)
		}
		return events, c.Out(math.MaxInt64)
	}
	events, said := run(len(all))
	if len(events) < 8 || events[len(events)-1].Kind != api.ELost {
		t.Error(events)
	}
	for _, step := range []int{1, 2, 3, 5, 9, 24, 50} {
		if e, b := run(step); !reflect.DeepEqual(e, events) || !bytes.Equal(b, said) {
			t.Error(step, e)
		}
	}
}

func TestP24_8BothEnds(t *testing.T) {
	s, c := made(t, true, api.Config{Streams: 100, Window: 100000, List: 65536}), made(t, false, small)
	var toServer, toClient []api.Event
	carry := func(n int) {
		toServer = append(toServer, s.Feed(c.Out(n))...)
		toClient = append(toClient, c.Feed(s.Out(n))...)
	}
	carry(7)
	carry(1000)
	carry(1000)
	text := strings.Repeat("The quick brown fox. ", 20000)
	id, _ := c.Start(rows(":method", "POST", "cookie", "x=y", "a", strings.Repeat("b", 30000)), false)
	sent, body := 0, ""
	for round := 0; len(body) < len(text) && round < 10000; round++ {
		if sent < len(text) {
			n, _ := c.Data(id, text[sent:], true)
			sent += n
		}
		carry(5000 + round)
		carry(10000)
		for _, e := range toServer {
			if e.Kind == api.EData && len(e.Body) > 0 {
				body += e.Body
				s.Credit(e.Stream, len(e.Body))
			}
		}
		toServer = nil
		if s.Waiting() > api.MaxQueue || c.Waiting() > api.MaxQueue {
			t.Fatal("queues")
		}
	}
	if body != text || sent != len(text) || s.Dead() || c.Dead() {
		t.Error(len(body), sent)
	}
	streams(t, c, 1, stream.HalfLocal)
	streams(t, s, 1, stream.HalfRemote)
}
