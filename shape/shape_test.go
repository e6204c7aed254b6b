package shape

import (
	"bytes"
	"reflect"
	"testing"

	"reservoir/api"
)

func fr(kind, flags, stream int, payload ...byte) api.Frame {
	return api.Frame{Type: kind, Flags: flags, Stream: stream, Payload: payload}
}

func conn(code api.Code) api.Bad { return api.Bad{Scope: api.OfConn, Code: code} }

func strm(code api.Code, stream int) api.Bad {
	return api.Bad{Scope: api.OfStream, Code: code, Stream: stream}
}

func says(t *testing.T, f api.Frame, want api.Part) {
	t.Helper()
	p, bad := Of(f)
	if len(p.Body) == 0 {
		p.Body = nil
	}
	if len(p.Settings) == 0 {
		p.Settings = nil
	}
	if !reflect.DeepEqual(p, want) || bad != (api.Bad{}) {
		t.Errorf("%+v: %+v %+v", f, p, bad)
	}
}

func fails(t *testing.T, f api.Frame, want api.Bad) {
	t.Helper()
	if p, bad := Of(f); !reflect.DeepEqual(p, api.Part{}) || bad != want {
		t.Errorf("%+v: %+v %+v", f, p, bad)
	}
}

const (
	end, fields, padded, prio = api.FEnd, api.FFields, api.FPadded, api.FPriority
)

func TestP10_1NotOfAType(t *testing.T) {
	for _, f := range []api.Frame{fr(10, 255, 0, 1, 2), fr(255, 0, 7), fr(-1, 0, 3), fr(256, 0, 0), fr(0, -1, 0), fr(0, 256, 1), fr(0, 0, -1), fr(6, 0, api.MaxStream+1)} {
		says(t, f, api.Part{Type: f.Type, Stream: f.Stream})
	}
	big := api.Frame{Type: api.TData, Stream: 1, Payload: make([]byte, api.MaxFrame+1)}
	says(t, big, api.Part{Type: api.TData, Stream: 1})
}

func TestP10_1Streams(t *testing.T) {
	for _, kind := range []int{api.TData, api.THeaders, api.TPriority, api.TReset, api.TContinuation} {
		fails(t, fr(kind, 0, 0, 0, 0, 0, 1, 9), conn(api.Protocol))
		fails(t, fr(kind, padded, 0), conn(api.Protocol))
	}
	for _, kind := range []int{api.TSettings, api.TPing, api.TGoAway} {
		fails(t, fr(kind, 0, 1), conn(api.Protocol))
		fails(t, fr(kind, 0, api.MaxStream, make([]byte, 8)...), conn(api.Protocol))
	}
	for _, stream := range []int{0, 1, 2} {
		fails(t, fr(api.TPush, fields, stream, 0, 0, 0, 2), conn(api.Protocol))
	}
}

func TestP10_1Data(t *testing.T) {
	says(t, fr(0, padded|end, 1, 1, 'a', 'b', 0), api.Part{Stream: 1, End: true, Cost: 4, Body: []byte("ab")})
	says(t, fr(0, 0, 1), api.Part{Stream: 1})
	says(t, fr(0, end, 2, 'x'), api.Part{Stream: 2, End: true, Cost: 1, Body: []byte("x")})
	says(t, fr(0, 255-padded-end, 2, 'x'), api.Part{Stream: 2, Cost: 1, Body: []byte("x")})
	says(t, fr(0, padded, 1, 0), api.Part{Stream: 1, Cost: 1})
	says(t, fr(0, padded, 1, 2, 0, 0), api.Part{Stream: 1, Cost: 3})
	says(t, fr(0, padded, 1, 0, 7), api.Part{Stream: 1, Cost: 2, Body: []byte{7}})
	fails(t, fr(0, padded, 1), conn(api.FrameSize))
	fails(t, fr(0, padded, 1, 1), conn(api.Protocol))
	fails(t, fr(0, padded, 1, 5, 'a'), conn(api.Protocol))
	fails(t, fr(0, padded, 1, 3, 0, 0), conn(api.Protocol))
}

func TestP10_1Headers(t *testing.T) {
	says(t, fr(1, end|fields, 1, 0x82), api.Part{Type: 1, Stream: 1, End: true, Fields: true, Body: []byte{0x82}})
	says(t, fr(1, 0, 1), api.Part{Type: 1, Stream: 1})
	says(t, fr(1, fields|padded, 1, 1, 9, 8), api.Part{Type: 1, Stream: 1, Fields: true, Body: []byte{9}})
	says(t, fr(1, prio, 3, 0x80, 0, 0, 1, 200, 5), api.Part{Type: 1, Stream: 3, Body: []byte{5}})
	says(t, fr(1, prio, 3, 0, 0, 0, 0, 0), api.Part{Type: 1, Stream: 3})
	says(t, fr(1, prio|padded, 3, 2, 0, 0, 0, 1, 0, 5, 6, 7), api.Part{Type: 1, Stream: 3, Body: []byte{5}})
	fails(t, fr(1, padded, 1), conn(api.FrameSize))
	fails(t, fr(1, padded|prio, 1), conn(api.FrameSize))
	fails(t, fr(1, prio, 1, 0, 0, 0, 2), conn(api.FrameSize))
	fails(t, fr(1, prio|padded, 1, 0, 0, 0, 0, 2), conn(api.FrameSize))
	// The padding is held against the rest after the priority, and last.
	fails(t, fr(1, prio|padded, 3, 9, 0, 0, 0, 1), conn(api.FrameSize))
	fails(t, fr(1, prio|padded, 3, 9, 0, 0, 0, 3, 0), strm(api.Protocol, 3))
	fails(t, fr(1, prio, 3, 0x80, 0, 0, 3, 0), strm(api.Protocol, 3))
	fails(t, fr(1, prio|padded, 3, 3, 0, 0, 0, 1, 0, 7, 7), conn(api.Protocol))
	fails(t, fr(1, padded, 3, 1), conn(api.Protocol))
}

func TestP10_1PriorityAndReset(t *testing.T) {
	says(t, fr(2, 255, 3, 0, 0, 0, 1, 9), api.Part{Type: 2, Stream: 3})
	for n := range 8 {
		if n != 5 {
			fails(t, fr(2, 0, 3, make([]byte, n)...), strm(api.FrameSize, 3))
		}
		if n != 4 {
			fails(t, fr(3, 0, 3, make([]byte, n)...), conn(api.FrameSize))
		}
	}
	fails(t, fr(2, 0, 3, 0, 0, 0, 3, 9), strm(api.Protocol, 3))
	fails(t, fr(2, 0, api.MaxStream, 0xff, 0xff, 0xff, 0xff, 9), strm(api.Protocol, api.MaxStream))
	says(t, fr(3, 255, 3, 0, 0, 0, 8), api.Part{Type: 3, Stream: 3, Code: api.Cancel})
	says(t, fr(3, 0, 3, 0x81, 2, 3, 4), api.Part{Type: 3, Stream: 3, Code: 0x81020304})
}

func TestP10_1Settings(t *testing.T) {
	says(t, fr(4, 0, 0), api.Part{Type: 4})
	says(t, fr(4, api.FAck, 0), api.Part{Type: 4, Ack: true})
	says(t, fr(4, 0, 0, 0, 4, 0, 1, 2, 3, 0xab, 0xcd, 0xff, 0xfe, 0xfd, 0xfc), api.Part{Type: 4, Settings: []api.Setting{{Id: 4, Value: 0x010203}, {Id: 0xabcd, Value: 0xfffefdfc}}})
	fails(t, fr(4, api.FAck, 0, 0, 4, 0, 0, 0, 0), conn(api.FrameSize))
	for _, n := range []int{1, 5, 7, 11} {
		fails(t, fr(4, 0, 0, make([]byte, n)...), conn(api.FrameSize))
	}
	fails(t, fr(4, 0, 0, 0, 4, 0x80, 0, 0, 0), conn(api.FlowControl))
	fails(t, fr(4, 0, 0, 0, 2, 0, 0, 0, 2), conn(api.Protocol))
	fails(t, fr(4, 0, 0, 0, 2, 0, 0, 0, 2, 0, 4, 0x80, 0, 0, 0), conn(api.Protocol))
	fails(t, fr(4, 0, 0, 0, 1, 0, 0, 0, 2, 0, 4, 0x80, 0, 0, 0, 0, 2, 0, 0, 0, 2), conn(api.FlowControl))
	// A wrong length goes before a wrong value.
	fails(t, fr(4, 0, 0, 0, 4, 0x80, 0, 0, 0, 1), conn(api.FrameSize))
}

func TestP10_1PingAndGoAway(t *testing.T) {
	eight := []byte{1, 2, 3, 4, 5, 6, 7, 8}
	says(t, fr(6, 0, 0, eight...), api.Part{Type: 6, Body: eight})
	says(t, fr(6, api.FAck, 0, eight...), api.Part{Type: 6, Ack: true, Body: eight})
	for _, n := range []int{0, 7, 9, 16} {
		fails(t, fr(6, 0, 0, make([]byte, n)...), conn(api.FrameSize))
	}
	for n := range 8 {
		fails(t, fr(7, 0, 0, make([]byte, n)...), conn(api.FrameSize))
	}
	says(t, fr(7, 0, 0, 0x80, 0, 0, 5, 0, 0, 0, 11), api.Part{Type: 7, Last: 5, Code: api.Calm})
	says(t, fr(7, 0, 0, 0xff, 0xff, 0xff, 0xff, 0xff, 0xff, 0xff, 0xff, 'w'), api.Part{Type: 7, Last: api.MaxStream, Code: 0xffffffff, Body: []byte("w")})
}

func TestP10_1WindowAndContinuation(t *testing.T) {
	says(t, fr(8, 0, 0, 0, 0, 0, 1), api.Part{Type: 8, More: 1})
	says(t, fr(8, 0, 3, 0xff, 0xff, 0xff, 0xff), api.Part{Type: 8, Stream: 3, More: api.MaxWindow})
	for n := range 9 {
		if n != 4 {
			fails(t, fr(8, 0, n%2, make([]byte, n)...), conn(api.FrameSize))
		}
	}
	fails(t, fr(8, 0, 0, 0, 0, 0, 0), conn(api.Protocol))
	fails(t, fr(8, 0, 3, 0x80, 0, 0, 0), strm(api.Protocol, 3))
	says(t, fr(9, fields, 3, 1, 2), api.Part{Type: 9, Stream: 3, Fields: true, Body: []byte{1, 2}})
	says(t, fr(9, padded|prio|end, 3), api.Part{Type: 9, Stream: 3})
}

func TestP10_2PartOrError(t *testing.T) {
	for kind := range 12 {
		for flags := range 64 {
			for n := range 14 {
				f := fr(kind, flags, n%3, bytes.Repeat([]byte{byte(n % 4)}, n)...)
				p, bad := Of(f)
				empty := reflect.DeepEqual(p, api.Part{})
				if bad != (api.Bad{}) && !empty {
					t.Fatal(f, p, bad)
				}
				if bad == (api.Bad{}) && (p.Type != kind || p.Stream != f.Stream) {
					t.Fatal(f, p, bad)
				}
				clear(f.Payload)
				if bad == (api.Bad{}) && n%4 != 0 && bytes.Contains(p.Body, []byte{0}) {
					t.Fatal("the body shares the payload's memory")
				}
			}
		}
	}
	for pad := range 5 {
		b := append([]byte{byte(pad), 'a'}, bytes.Repeat([]byte{0xee}, pad)...)
		says(t, fr(0, padded, 1, b...), api.Part{Stream: 1, Cost: 2 + pad, Body: []byte("a")})
		says(t, fr(1, padded, 1, b...), api.Part{Type: 1, Stream: 1, Body: []byte("a")})
	}
}
