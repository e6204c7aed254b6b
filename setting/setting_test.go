package setting

import (
	"bytes"
	"math"
	"testing"

	"reservoir/api"
)

func TestP11_1Value(t *testing.T) {
	for _, c := range []struct {
		id, value int
		want      api.Code
	}{
		{api.SPush, 0, api.NoError}, {api.SPush, 1, api.NoError}, {api.SPush, 2, api.Protocol}, {api.SPush, -1, api.Protocol},
		{api.SWindow, 0, api.NoError}, {api.SWindow, api.MaxWindow, api.NoError}, {api.SWindow, 1 << 31, api.FlowControl}, {api.SWindow, -1, api.FlowControl},
		{api.SFrame, api.MinFrame, api.NoError}, {api.SFrame, api.MaxFrame, api.NoError}, {api.SFrame, api.MinFrame - 1, api.Protocol}, {api.SFrame, api.MaxFrame + 1, api.Protocol}, {api.SFrame, 100, api.Protocol},
		{api.STable, math.MinInt64, api.NoError}, {api.STable, math.MaxInt64, api.NoError}, {api.SStreams, -1, api.NoError}, {api.SList, 1 << 40, api.NoError},
		{9, 7, api.NoError}, {0, -1, api.NoError}, {-4, -1, api.NoError}, {api.SWindow + 1<<16, -1, api.NoError},
	} {
		if got := Value(api.Setting{Id: c.id, Value: c.value}); got != c.want {
			t.Error(c, got)
		}
	}
}

func TestP11_2First(t *testing.T) {
	if First() != (Set{Table: 4096, Streams: api.MaxStream, Window: 65535, Frame: 16384, List: api.MaxInt}) {
		t.Error(First())
	}
}

func TestP11_3Apply(t *testing.T) {
	x, code := Apply(First(), []api.Setting{{Id: api.SWindow, Value: 0}, {Id: api.STable, Value: 1<<32 - 1}})
	if x != (Set{Table: api.MaxInt, Streams: api.MaxStream, Frame: api.MinFrame, List: api.MaxInt}) || code != api.NoError {
		t.Error(x, code)
	}
	all := []api.Setting{{Id: api.STable, Value: 1}, {Id: api.SPush, Value: 0}, {Id: api.SStreams, Value: 2}, {Id: api.SWindow, Value: 3}, {Id: api.SFrame, Value: 20000}, {Id: api.SList, Value: 5}, {Id: 7, Value: 6}, {Id: 0, Value: 6}, {Id: -1, Value: 8}}
	if x, code := Apply(First(), all); x != (Set{1, 2, 3, 20000, 5}) || code != api.NoError {
		t.Error(x, code)
	}
	if x, code := Apply(Set{9, 9, 9, 9, 9}, nil); x != (Set{9, 9, 9, 9, 9}) || code != api.NoError {
		t.Error(x, code)
	}
	clamped := []api.Setting{{Id: api.STable, Value: -1}, {Id: api.SStreams, Value: 1 << 31}, {Id: api.SList, Value: math.MinInt64}, {Id: api.SList, Value: 6}, {Id: api.SList, Value: -6}}
	if x, code := Apply(First(), clamped); x != (Set{0, api.MaxInt, api.Window, api.MinFrame, 0}) || code != api.NoError {
		t.Error(x, code)
	}
}

func TestP11_3ApplyRejectsTheWhole(t *testing.T) {
	l := []api.Setting{{Id: api.STable, Value: 1}, {Id: api.SWindow, Value: 1 << 31}, {Id: api.SFrame, Value: 1}, {Id: api.SList, Value: 2}}
	if x, code := Apply(First(), l); x != First() || code != api.FlowControl {
		t.Error(x, code)
	}
	l[1], l[2] = l[2], l[1]
	if x, code := Apply(First(), l); x != First() || code != api.Protocol {
		t.Error(x, code)
	}
}

func TestP11_4Put(t *testing.T) {
	if got := Put([]api.Setting{{Id: api.SFrame, Value: 16384}}); !bytes.Equal(got, []byte{0, 5, 0, 0, 0x40, 0}) {
		t.Errorf("% x", got)
	}
	if len(Put(nil)) != 0 {
		t.Error("no settings")
	}
	got := Put([]api.Setting{{Id: 0x1abcd, Value: 0x5_1234_5678}, {Id: -1, Value: -2}})
	if !bytes.Equal(got, []byte{0xab, 0xcd, 0x12, 0x34, 0x56, 0x78, 0xff, 0xff, 0xff, 0xff, 0xff, 0xfe}) {
		t.Errorf("% x", got)
	}
}

func TestP11_5Concatenation(t *testing.T) {
	l := []api.Setting{{Id: 1, Value: 5}, {Id: 3, Value: 7}, {Id: 1, Value: 8}, {Id: 4, Value: 9}, {Id: 6, Value: 1}, {Id: 5, Value: 30000}, {Id: 4, Value: 10}}
	whole, _ := Apply(First(), l)
	for i := range l {
		front, _ := Apply(First(), l[:i])
		if back, code := Apply(front, l[i:]); back != whole || code != api.NoError {
			t.Error(i, back, code)
		}
	}
}
