package pint

import (
	"bytes"
	"math"
	"testing"

	"reservoir/api"
)

func TestP3_1Put(t *testing.T) {
	for i, c := range []struct {
		b    []byte
		n    int
		top  byte
		v    int
		want []byte
	}{
		{nil, 5, 0, 10, []byte{0x0a}},
		{nil, 5, 0xe0, 1337, []byte{0xff, 0x9a, 0x0a}},
		{nil, 8, 0, 42, []byte{0x2a}},
		{[]byte{1, 2}, 7, 0x80, 0, []byte{1, 2, 0x80}},
		{nil, 7, 0xff, 1, []byte{0x81}},
		{nil, 1, 0xff, 0, []byte{0xfe}},
		{nil, 1, 0, 1, []byte{1, 0}},
		{nil, 5, 0, 30, []byte{30}},
		{nil, 5, 0, 31, []byte{31, 0}},
		{nil, 5, 0, 158, []byte{31, 127}},
		{nil, 5, 0, 159, []byte{31, 128, 1}},
		{nil, 8, 0xff, 254, []byte{254}},
		{nil, 8, 0, 255, []byte{255, 0}},
		{nil, 8, 0, api.MaxInt, []byte{0xff, 0x80, 0xfe, 0xff, 0xff, 0x07}},
		{nil, 1, 0, api.MaxInt, []byte{1, 0xfe, 0xff, 0xff, 0xff, 0x07}},
		{[]byte{9}, 0, 0, 1, []byte{9}},
		{[]byte{9}, 9, 0, 1, []byte{9}},
		{[]byte{9}, -1, 0, 1, []byte{9}},
		{[]byte{9}, math.MaxInt64, 0, 1, []byte{9}},
		{[]byte{9}, 5, 0, -1, []byte{9}},
		{[]byte{9}, 5, 0, api.MaxInt + 1, []byte{9}},
		{nil, 5, 0, math.MinInt64, nil},
	} {
		if got := Put(c.b, c.n, c.top, c.v); !bytes.Equal(got, c.want) {
			t.Errorf("%d: % x", i, got)
		}
	}
}

func TestP3_1PutIsNewMemory(t *testing.T) {
	b := append(make([]byte, 0, 10), 1, 2)
	for _, v := range []int{5, 1 << 20, -1} {
		out := Put(b, 5, 0, v)
		out[0] = 7
		if b[0] != 1 || b[:10][2] != 0 {
			t.Error("the argument is touched", v)
		}
	}
}

func TestP3_2GetGood(t *testing.T) {
	for i, c := range []struct {
		b              []byte
		at, n, v, next int
	}{
		{[]byte{0x1f, 0x9a, 0x0a}, 0, 5, 1337, 3},
		{[]byte{0xff, 0x80, 0x00}, 0, 8, 255, 3},
		{[]byte{0xe0, 0xea}, 1, 5, 10, 2},
		{[]byte{0xff, 0, 1}, 0, 8, 255, 2},
		{[]byte{0x1f, 0x80, 0x80, 0x80, 0x80, 0x00}, 0, 5, 31, 6},
		{[]byte{0x1f, 0xe0, 0xff, 0xff, 0xff, 0x07}, 0, 5, api.MaxInt, 6},
		{[]byte{0xff, 0x80, 0xfe, 0xff, 0xff, 0x07, 0xff}, 0, 8, api.MaxInt, 6},
	} {
		if v, next, no := Get(c.b, c.at, c.n); v != c.v || next != c.next || no != api.OK {
			t.Error(i, v, next, no)
		}
	}
}

func TestP3_2GetErrors(t *testing.T) {
	for i, c := range []struct {
		b     []byte
		at, n int
		want  api.Errno
	}{
		{[]byte{1}, 0, 0, api.ErrArg},
		{[]byte{1}, 0, 9, api.ErrArg},
		{[]byte{1}, -1, 5, api.ErrArg},
		{[]byte{1}, 2, 5, api.ErrArg},
		{[]byte{1}, math.MaxInt64, 5, api.ErrArg},
		{nil, 0, 0, api.ErrArg},
		{nil, 0, 5, api.ErrShort},
		{[]byte{1}, 1, 5, api.ErrShort},
		{[]byte{0x1f}, 0, 5, api.ErrShort},
		{[]byte{0x1f, 0x9a}, 0, 5, api.ErrShort},
		{[]byte{0x1f, 0x80, 0x80, 0x80, 0x80}, 0, 5, api.ErrShort},
		{[]byte{0x1f, 0x80, 0x80, 0x80, 0x80, 0x80}, 0, 5, api.ErrLong},
		{[]byte{0x1f, 0x80, 0x80, 0x80, 0x80, 0x80, 0x00}, 0, 5, api.ErrLong},
		{[]byte{0x1f, 0xff, 0xff, 0xff, 0xff, 0x0f}, 0, 5, api.ErrLong},
		{[]byte{0x1f, 0xe1, 0xff, 0xff, 0xff, 0x07}, 0, 5, api.ErrLong},
		{[]byte{0x1f, 0xe1, 0xff, 0xff, 0xff, 0x87}, 0, 5, api.ErrLong},
		{[]byte{0xff, 0xff, 0xff, 0xff, 0xff, 0x7f}, 0, 8, api.ErrLong},
	} {
		if v, next, no := Get(c.b, c.at, c.n); v != 0 || next != 0 || no != c.want {
			t.Error(i, v, next, no)
		}
	}
}

func TestP3_3RoundTrip(t *testing.T) {
	values := []int{0, 1, 2, 30, 31, 126, 127, 128, 254, 255, 256, 16383, 16384, 1 << 21, 1<<28 - 1, 1 << 30, api.MaxInt - 1, api.MaxInt}
	for n := 1; n <= 8; n++ {
		for _, v := range values {
			for _, top := range []byte{0, 0xff, 0xa5} {
				front := []byte{0xff, 0x80}
				b := Put(front, n, top, v)
				got, next, no := Get(append(b, 0xff, 0x01), 2, n)
				if got != v || next != len(b) || no != api.OK {
					t.Error(n, v, got, next, no)
				}
				if b[2]>>n<<n != top>>n<<n && n < 8 {
					t.Error("other bits", n, v, top)
				}
				for end := 2; end < len(b); end++ {
					if _, _, no := Get(b[:end], 2, n); no != api.ErrShort {
						t.Error("prefix", n, v, end, no)
					}
				}
			}
		}
	}
}
