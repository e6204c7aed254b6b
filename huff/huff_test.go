package huff

import (
	"bytes"
	"math"
	"strings"
	"testing"

	"reservoir/api"
)

// every returns a string of all bytes.
func every() string {
	b := make([]byte, 256)
	for i := range b {
		b[i] = byte(i)
	}
	return string(b)
}

func TestP4_1Code(t *testing.T) {
	for _, c := range [][3]int{{48, 0, 5}, {38, 0xf8, 8}, {256, 0x3fffffff, 30}, {257, 0, 0}, {-1, 0, 0}, {math.MaxInt64, 0, 0}, {math.MinInt64, 0, 0}, {0, 0x1ff8, 13}, {' ', 0x14, 6}, {'a', 3, 5}, {'z', 0x7b, 7}, {'~', 0x1ffd, 13}, {10, 0x3ffffffc, 30}, {13, 0x3ffffffd, 30}, {22, 0x3ffffffe, 30}, {255, 0x3ffffee, 26}, {249, 0xffffffe, 28}, {127, 0xffffffc, 28}, {1, 0x7fffd8, 23}, {92, 0x7fff0, 19}, {195, 0x7fff1, 19}, {128, 0xfffe6, 20}, {199, 0x1ffffec, 25}, {207, 0x1ffffed, 25}, {203, 0x7ffffde, 27}} {
		if code, size := Code(c[0]); code != c[1] || size != c[2] {
			t.Errorf("%d: %x, %d", c[0], code, size)
		}
	}
	for sym := range 257 {
		if _, size := Code(sym); size != api.Length(sym) {
			t.Error(sym, size)
		}
	}
}

func TestP4_2EncodeAndSize(t *testing.T) {
	for s, want := range map[string][]byte{
		"":                nil,
		"www.example.com": {0xf1, 0xe3, 0xc2, 0xe5, 0xf2, 0x3a, 0x6b, 0xa0, 0xab, 0x90, 0xf4, 0xff},
		"no-cache":        {0xa8, 0xeb, 0x10, 0x64, 0x9c, 0xbf},
		"custom-key":      {0x25, 0xa8, 0x49, 0xe9, 0x5b, 0xa9, 0x7d, 0x7f},
		"302":             {0x64, 0x02},
		"0":               {0x07},
		"&":               {0xf8},
		"\n":              {0xff, 0xff, 0xff, 0xf3},
		"00000000":        {0, 0, 0, 0, 0},
	} {
		if got := Encode(s); !bytes.Equal(got, want) {
			t.Errorf("%q: % x", s, got)
		}
		if got := Size(s); got != len(want) {
			t.Error(s, got)
		}
	}
}

func TestP4_3Decode(t *testing.T) {
	for i, c := range []struct {
		b    []byte
		want string
		no   api.Errno
	}{
		{nil, "", api.OK},
		{[]byte{0x64, 0x02}, "302", api.OK},
		{[]byte{0xf8}, "&", api.OK},
		{[]byte{0x07}, "0", api.OK},
		{[]byte{0xff, 0xff, 0xff, 0xff}, "", api.ErrForm},
		{[]byte{0x00, 0x00}, "", api.ErrForm},
		{[]byte{0x07, 0xff}, "", api.ErrForm},
		{[]byte{0xff}, "", api.ErrForm},
		{[]byte{0xff, 0xff}, "", api.ErrForm},
		{[]byte{0x06}, "", api.ErrForm},
		{[]byte{0x03}, "", api.ErrForm},
		{[]byte{0xf8, 0xff}, "", api.ErrForm},
		{[]byte{0x07, 0xff, 0xff, 0xff, 0xff}, "", api.ErrForm},
		{[]byte{0xff, 0xff, 0xff, 0xff, 0x07}, "", api.ErrForm},
	} {
		if got, no := Decode(c.b); got != c.want || no != c.no {
			t.Errorf("%d: %q %d", i, got, no)
		}
	}
}

func TestP4_4RoundTrip(t *testing.T) {
	all := []string{every(), strings.Repeat("\n", 50), strings.Repeat("ab~", 1000)}
	for i := range 256 {
		for n := range 9 {
			all = append(all, strings.Repeat(every()[i:i+1], n)+"0")
		}
	}
	for _, s := range all {
		b := Encode(s)
		if got, no := Decode(b); got != s || no != api.OK || Size(s) != len(b) {
			t.Errorf("%q: %q %d", s, got, no)
		}
	}
	// What is accepted is encoded by these bytes alone.
	accepted := 0
	for x := range 1 << 16 {
		b := []byte{byte(x >> 8), byte(x)}
		if s, no := Decode(b); no == api.OK {
			accepted++
			if !bytes.Equal(Encode(s), b) {
				t.Errorf("% x: %q", b, s)
			}
		} else if s != "" || no != api.ErrForm {
			t.Error(x, s, no)
		}
	}
	if accepted == 0 || accepted == 1<<16 {
		t.Error(accepted)
	}
}
