package frame

import (
	"bytes"
	"math"
	"reflect"
	"testing"

	"reservoir/api"
)

func same(a, b api.Frame) bool {
	return a.Type == b.Type && a.Flags == b.Flags && a.Stream == b.Stream && bytes.Equal(a.Payload, b.Payload)
}

func made(t *testing.T, most int, preface bool) *Reader {
	t.Helper()
	r, no := New(most, preface)
	if no != api.OK || r.Left() != 0 {
		t.Fatal(most, no)
	}
	return r
}

// samples are valid frames at all edges.
func samples() []api.Frame {
	return []api.Frame{
		{},
		{Type: 6, Flags: 1, Payload: make([]byte, 8)},
		{Type: 255, Flags: 255, Stream: api.MaxStream, Payload: []byte{1}},
		{Type: 1, Flags: 4, Stream: 0x01020304, Payload: []byte("abc")},
		{Type: 0, Stream: 1, Payload: bytes.Repeat([]byte{7}, api.MinFrame)},
		{Type: 0, Stream: 1, Payload: bytes.Repeat([]byte{8}, 300)},
		{Type: 10, Flags: 128, Stream: 256},
	}
}

func TestP9_1Right(t *testing.T) {
	for i, f := range samples() {
		if !Right(f) {
			t.Error(i)
		}
	}
	for i, f := range []api.Frame{{Type: -1}, {Type: 256}, {Flags: -1}, {Flags: 256}, {Stream: -1}, {Stream: api.MaxStream + 1}, {Payload: make([]byte, api.MaxFrame+1)}, {Type: math.MinInt64}, {Stream: math.MaxInt64}} {
		if Right(f) {
			t.Error(i)
		}
		if got := Put([]byte{1, 2}, f); !bytes.Equal(got, []byte{1, 2}) {
			t.Error(i, got)
		}
	}
	if !Right(api.Frame{Payload: make([]byte, api.MaxFrame)}) {
		t.Error("the greatest payload")
	}
}

func TestP9_1Put(t *testing.T) {
	want := append([]byte{9, 0, 0, 8, 6, 1, 0, 0, 0, 0}, make([]byte, 8)...)
	if got := Put([]byte{9}, samples()[1]); !bytes.Equal(got, want) {
		t.Errorf("% x", got)
	}
	want = []byte{0, 0, 3, 1, 4, 1, 2, 3, 4, 'a', 'b', 'c'}
	if got := Put(nil, samples()[3]); !bytes.Equal(got, want) {
		t.Errorf("% x", got)
	}
	long := Put(nil, api.Frame{Payload: make([]byte, 0x010203)})
	if !bytes.Equal(long[:3], []byte{1, 2, 3}) || len(long) != 9+0x010203 {
		t.Errorf("% x", long[:3])
	}
	b := append(make([]byte, 0, 50), 5)
	for _, f := range []api.Frame{{Payload: []byte{1}}, {Type: -1}} {
		out := Put(b, f)
		out[0] = 6
		if b[0] != 5 || b[:50][1] != 0 || b[:50][3] != 0 {
			t.Error("the argument is touched")
		}
	}
}

func TestP9_2NewAndResize(t *testing.T) {
	for _, most := range []int{api.MinFrame, api.MaxFrame} {
		if r := made(t, most, true); r.Resize(most) != api.OK {
			t.Error(most)
		}
	}
	for _, most := range []int{api.MinFrame - 1, api.MaxFrame + 1, 0, -1, math.MinInt64, math.MaxInt64} {
		if r, no := New(most, false); r != nil || no != api.ErrArg {
			t.Error(most, no)
		}
		if no := made(t, api.MinFrame, false).Resize(most); no != api.ErrArg {
			t.Error(most, no)
		}
	}
	r := made(t, api.MinFrame, false)
	big := Put(nil, api.Frame{Payload: make([]byte, api.MinFrame+1)})
	r.Resize(api.MinFrame + 1)
	r.Resize(5)
	if l, bad := r.Feed(big); len(l) != 1 || bad != (api.Bad{}) {
		t.Error(len(l), bad)
	}
	r.Resize(api.MinFrame)
	if l, bad := r.Feed(big); len(l) != 0 || bad != (api.Bad{Scope: api.OfConn, Code: api.FrameSize}) {
		t.Error(len(l), bad)
	}
}

func TestP9_3LengthsOfThreeBytes(t *testing.T) {
	r := made(t, api.MaxFrame, false)
	for _, n := range []int{0x010203, 0x0300ff, 0x8000} {
		f := api.Frame{Type: 9, Stream: 0x7f000001, Payload: bytes.Repeat([]byte{5}, n)}
		if l, bad := r.Feed(Put(nil, f)); len(l) != 1 || !same(l[0], f) || bad != (api.Bad{}) || r.Left() != 0 {
			t.Error(n, len(l), bad)
		}
	}
}

func TestP9_2ResizeAppliesToFramesThatCome(t *testing.T) {
	r := made(t, api.MinFrame+1, false)
	big := Put(nil, api.Frame{Payload: make([]byte, api.MinFrame+1)})
	if l, bad := r.Feed(big[:20]); len(l) != 0 || bad != (api.Bad{}) || r.Left() != 20 {
		t.Error(len(l), bad, r.Left())
	}
	r.Resize(api.MinFrame)
	if l, bad := r.Feed(nil); len(l) != 0 || bad.Code != api.FrameSize || r.Left() != 0 {
		t.Error(len(l), bad, r.Left())
	}
}

func TestP9_3Preface(t *testing.T) {
	f := samples()[3]
	good := Put([]byte(Preface), f)
	r := made(t, api.MinFrame, true)
	if l, bad := r.Feed(good); len(l) != 1 || !same(l[0], f) || bad != (api.Bad{}) || r.Left() != 0 {
		t.Error(l, bad)
	}
	protocol := api.Bad{Scope: api.OfConn, Code: api.Protocol}
	for i := range len(Preface) {
		r := made(t, api.MinFrame, true)
		if l, bad := r.Feed(good[:i]); l != nil || bad != (api.Bad{}) || r.Left() != 0 {
			t.Error(i, l, bad, r.Left())
		}
		for range 2 {
			if l, bad := r.Feed([]byte{good[i] ^ 1}); l != nil || bad != protocol || r.Left() != 0 {
				t.Error(i, l, bad)
			}
		}
		if l, bad := r.Feed(good[i:]); l != nil || bad != protocol {
			t.Error(i, l, bad)
		}
	}
	if l, bad := made(t, api.MinFrame, true).Feed([]byte("PRJ")); l != nil || bad != protocol {
		t.Error(l, bad)
	}
	if Preface != "PRI * HTTP/2.0\r\n\r\nSM\r\n\r\n" || len(Preface) != 24 {
		t.Error("the preface")
	}
}

func TestP9_3FeedInPieces(t *testing.T) {
	b := Put(nil, samples()[1])
	r := made(t, api.MinFrame, false)
	if l, bad := r.Feed(b[:10]); l != nil || bad != (api.Bad{}) || r.Left() != 10 {
		t.Error(l, bad, r.Left())
	}
	if l, bad := r.Feed(b[10:]); len(l) != 1 || !same(l[0], samples()[1]) || bad != (api.Bad{}) || r.Left() != 0 {
		t.Error(l, bad, r.Left())
	}
	// The reserved bit does not count.
	if l, _ := r.Feed([]byte{0, 0, 0, 8, 0, 0x80, 0, 0, 5}); len(l) != 1 || l[0].Stream != 5 {
		t.Error(l)
	}
}

func TestP9_3FrameSize(t *testing.T) {
	size := api.Bad{Scope: api.OfConn, Code: api.FrameSize}
	r := made(t, api.MinFrame, false)
	// Nothing is said of a length before nine bytes are there.
	if l, bad := r.Feed([]byte{0, 0x40, 1, 0, 0, 0, 0, 0}); l != nil || bad != (api.Bad{}) || r.Left() != 8 {
		t.Error(l, bad, r.Left())
	}
	for range 2 {
		if l, bad := r.Feed([]byte{1}); l != nil || bad != size || r.Left() != 0 {
			t.Error(l, bad, r.Left())
		}
	}
	if r.Resize(api.MaxFrame) != api.OK {
		t.Error("resize after an error")
	}
	if l, bad := r.Feed(Put(nil, samples()[0])); l != nil || bad != size {
		t.Error(l, bad)
	}
	// Frames before the error come with it.
	r = made(t, api.MinFrame, false)
	b := append(Put(Put(nil, samples()[1]), samples()[3]), 0, 0x40, 1, 0, 0, 0, 0, 0, 1, 9, 9)
	if l, bad := r.Feed(b); len(l) != 2 || !same(l[1], samples()[3]) || bad != size || r.Left() != 0 {
		t.Error(l, bad, r.Left())
	}
}

func TestP9_4PiecesDoNotMatter(t *testing.T) {
	all := []byte(Preface)
	for _, f := range samples() {
		all = Put(all, f)
	}
	for _, tail := range [][]byte{nil, {0, 0x40, 1, 0, 0, 0, 0, 0, 1, 5}, {0, 0, 9, 9}} {
		whole := append(bytes.Clone(all), tail...)
		want, wantBad := made(t, api.MinFrame, true).Feed(whole)
		if len(want) != len(samples()) {
			t.Fatal(len(want))
		}
		for i, f := range samples() {
			if !same(f, want[i]) {
				t.Error(i)
			}
		}
		for _, step := range []int{1, 2, 3, 7, 23, 24, 25, 1000, 20000} {
			r := made(t, api.MinFrame, true)
			var got []api.Frame
			var bad api.Bad
			for at := 0; at < len(whole); at += step {
				piece := bytes.Clone(whole[at:min(at+step, len(whole))])
				var l []api.Frame
				l, bad = r.Feed(piece)
				clear(piece)
				got = append(got, l...)
			}
			if !reflect.DeepEqual(got, want) || bad != wantBad {
				t.Error(step, len(got), bad)
			}
		}
	}
}

func TestP9_3PayloadsAreNewMemory(t *testing.T) {
	r := made(t, api.MinFrame, false)
	b := Put(Put(nil, samples()[3]), samples()[3])
	l, _ := r.Feed(b)
	clear(b)
	l[0].Payload = append(l[0].Payload[:3], "xyzxyzxyzxyz"...)
	if string(l[1].Payload) != "abc" || string(l[0].Payload[:3]) != "abc" {
		t.Error(l)
	}
}
