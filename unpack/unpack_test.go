package unpack

import (
	"bytes"
	"encoding/hex"
	"math"
	"slices"
	"strings"
	"testing"

	"reservoir/api"
	"reservoir/huff"
	"reservoir/pint"
)

func unhex(t *testing.T, s string) []byte {
	t.Helper()
	b, err := hex.DecodeString(strings.ReplaceAll(s, " ", ""))
	if err != nil {
		t.Fatal(err)
	}
	return b
}

func row(how int, name, value string) api.Row {
	return api.Row{Field: api.Field{Name: name, Value: value}, How: how}
}

func made(t *testing.T, top, list int) *Unpacker {
	t.Helper()
	u, no := New(top, list)
	if no != api.OK || u.Bad() {
		t.Fatal(top, list, no)
	}
	return u
}

func tableIs(t *testing.T, u *Unpacker, n, size, most int) {
	t.Helper()
	if a, b, c := u.Table(); a != n || b != size || c != most {
		t.Error("table", a, b, c)
	}
}

func good(t *testing.T, u *Unpacker, block string, want ...api.Row) {
	t.Helper()
	rows, no := u.Block(unhex(t, block))
	if no != api.OK || !slices.Equal(rows, want) || u.Bad() {
		t.Error(block, rows, no)
	}
}

// wrong checks that a new unpacker answers the block with the error, and is bad.
func wrong(t *testing.T, block []byte, want api.Errno) *Unpacker {
	t.Helper()
	u := made(t, 4096, api.MaxInt)
	if rows, no := u.Block(block); rows != nil || no != want || !u.Bad() {
		t.Errorf("% x: %v %d %v", block[:min(len(block), 20)], rows, no, u.Bad())
	}
	if rows, no := u.Block(nil); rows != nil || no != api.ErrArg {
		t.Error("a bad one goes on", rows, no)
	}
	return u
}

func TestP7_1New(t *testing.T) {
	for _, c := range [][2]int{{0, 0}, {4096, 100}, {api.MaxTable, api.MaxInt}} {
		tableIs(t, made(t, c[0], c[1]), 0, 0, c[0])
	}
	for _, c := range [][2]int{{-1, 0}, {api.MaxTable + 1, 0}, {0, -1}, {0, api.MaxInt + 1}, {math.MinInt64, 0}, {math.MaxInt64, math.MaxInt64}} {
		if u, no := New(c[0], c[1]); u != nil || no != api.ErrArg {
			t.Error(c, no)
		}
	}
}

func TestP7_2Examples(t *testing.T) {
	u := made(t, 4096, 4096)
	four := []api.Row{row(1, ":method", "GET"), row(1, ":scheme", "http"), row(1, ":path", "/"), row(1, ":authority", "www.example.com")}
	good(t, u, "82 86 84 41 8C F1 E3 C2 E5 F2 3A 6B A0 AB 90 F4 FF", four...)
	tableIs(t, u, 1, 57, 4096)
	good(t, u, "82 86 84 BE 58 86 A8 EB 10 64 9C BF", append(four, row(1, "cache-control", "no-cache"))...)
	tableIs(t, u, 2, 110, 4096)
	good(t, u, "3F E1 1F 82", row(1, ":method", "GET"))
	if rows, no := u.Block(unhex(t, "82 20")); rows != nil || no != api.ErrSize {
		t.Error(rows, no)
	}
	if rows, no := u.Block(unhex(t, "82")); rows != nil || no != api.ErrArg {
		t.Error(rows, no)
	}
}

func TestP7_2Items(t *testing.T) {
	u := made(t, 4096, 4096)
	good(t, u, "")
	good(t, u, "40 01 61 02 62 63", row(1, "a", "bc"))
	tableIs(t, u, 1, 35, 4096)
	good(t, u, "BE 55 01 35", row(1, "a", "bc"), row(1, "age", "5"))
	tableIs(t, u, 2, 71, 4096)
	good(t, u, "BE BF", row(1, "age", "5"), row(1, "a", "bc"))
	// Not added: 0000 and 0001, with a new name, a static name and one of the table.
	good(t, u, "00 01 61 01 78", row(2, "a", "x"))
	good(t, u, "10 01 61 01 78", row(3, "a", "x"))
	good(t, u, "0F 06 01 36", row(2, "age", "6"))
	good(t, u, "1F 06 01 36", row(3, "age", "6"))
	good(t, u, "0F 30 00", row(2, "a", ""))
	good(t, u, "1F 30 01 78", row(3, "a", "x"))
}

func TestP7_2Names(t *testing.T) {
	u := made(t, 4096, 4096)
	good(t, u, "42 03 50 55 54", row(1, ":method", "PUT"))
	good(t, u, "7E 01 61", row(1, ":method", "a"))
	good(t, u, "7F 00 01 62", row(1, ":method", "b"))
	good(t, u, "40 81 1F 82 64 02", row(1, "a", "302"))
	good(t, u, "40 00 00", row(1, "", ""))
	tableIs(t, u, 5, 7+3+32+7+1+32+7+1+32+36+32, 4096)
	good(t, u, "BE C2", row(1, "", ""), row(1, ":method", "PUT"))
}

func TestP7_2Index(t *testing.T) {
	for _, block := range []string{"80", "BE", "FF 00", "FF 80 FF FF FF 07", "7E 00", "7F 00 00", "0F 2F 00", "1F 2F 00", "82 BE", "40 00 00 BF"} {
		wrong(t, unhex(t, block), api.ErrIndex)
	}
}

func TestP7_2Sizes(t *testing.T) {
	u := made(t, 4096, 4096)
	good(t, u, "40 01 61 01 62", row(1, "a", "b"))
	good(t, u, "3F 03 BE", row(1, "a", "b"))
	tableIs(t, u, 1, 34, 34)
	good(t, u, "20")
	tableIs(t, u, 0, 0, 0)
	good(t, u, "20 3F E1 1F 82", row(1, ":method", "GET"))
	tableIs(t, u, 0, 0, 4096)
	good(t, u, "3F E1 1F 3F E1 1F")
	for _, block := range []string{"82 20", "20 20 20", "3F E2 1F", "20 3F E2 1F", "20 82 20", "40 00 00 3F E1 1F"} {
		wrong(t, unhex(t, block), api.ErrSize)
	}
	// Number first, then what it says.
	wrong(t, unhex(t, "82 3F"), api.ErrShort)
	wrong(t, unhex(t, "20 20 3F FF FF FF FF 7F"), api.ErrLong)
	v := wrong(t, unhex(t, "20 3F E2 1F"), api.ErrSize)
	tableIs(t, v, 0, 0, 0)
	small := made(t, 33, 100)
	if _, no := small.Block(unhex(t, "3F 03")); no != api.ErrSize {
		t.Error(no)
	}
}

func TestP7_2NumbersAndStrings(t *testing.T) {
	for _, block := range []string{"FF", "FF 80", "7F", "40", "40 01", "40 01 61", "40 01 61 01", "40 05 61 62", "41", "3F", "0F", "1F", "00", "10", "40 7F", "00 01 61", "40 00 FF"} {
		wrong(t, unhex(t, block), api.ErrShort)
	}
	for _, block := range []string{"FF FF FF FF FF 7F", "FF 80 80 80 80 80 00", "7F FF FF FF FF 7F", "3F FF FF FF FF 7F", "0F FF FF FF FF 7F", "40 7F FF FF FF FF 7F", "40 00 7F FF FF FF FF 7F"} {
		wrong(t, unhex(t, block), api.ErrLong)
	}
	for _, block := range []string{"40 81 FF 00", "40 84 FF FF FF FF 00", "40 00 82 00 00", "00 81 06 00"} {
		wrong(t, unhex(t, block), api.ErrForm)
	}
}

func TestP7_2LongStrings(t *testing.T) {
	long := func(coded byte, n int, bytes []byte) []byte {
		return append(pint.Put([]byte{0x00, 0x01, 'a'}, 7, coded, n), bytes...)
	}
	u := made(t, 4096, api.MaxInt)
	text := strings.Repeat("x", api.MaxText)
	rows, no := u.Block(long(0, api.MaxText, []byte(text)))
	if no != api.OK || len(rows) != 1 || rows[0] != row(2, "a", text) {
		t.Error(len(rows), no)
	}
	// Too long goes before too short, and before the code's form.
	wrong(t, long(0, api.MaxText+1, nil), api.ErrLong)
	wrong(t, long(0, api.MaxText, nil), api.ErrShort)
	wrong(t, long(0x80, api.MaxText+1, bytes.Repeat([]byte{0xff}, api.MaxText+1)), api.ErrLong)
	wrong(t, long(0x80, 10, []byte{0xff, 0xff, 0xff, 0xff}), api.ErrShort)
	zeros := huff.Encode(strings.Repeat("0", api.MaxText))
	if rows, no := u.Block(long(0x80, len(zeros), zeros)); no != api.OK || len(rows[0].Value) != api.MaxText {
		t.Error(len(rows), no)
	}
	zeros = huff.Encode(strings.Repeat("0", api.MaxText+1))
	wrong(t, long(0x80, len(zeros), zeros), api.ErrLong)
}

func TestP7_2List(t *testing.T) {
	u := made(t, 4096, 42)
	good(t, u, "82", row(1, ":method", "GET"))
	good(t, u, "40 01 61 09 62 62 62 62 62 62 62 62 62", row(1, "a", "bbbbbbbbb"))
	tableIs(t, u, 1, 42, 4096)
	if rows, no := u.Block(unhex(t, "40 01 61 0A 62 62 62 62 62 62 62 62 62 62")); rows != nil || no != api.ErrLong {
		t.Error(rows, no)
	}
	tableIs(t, u, 2, 85, 4096)
	two := made(t, 4096, 83)
	if rows, no := two.Block(unhex(t, "82 82 80")); rows != nil || no != api.ErrLong {
		t.Error(rows, no)
	}
	none := made(t, 4096, 0)
	good(t, none, "20")
	if _, no := none.Block(unhex(t, "00 00 00")); no != api.ErrLong {
		t.Error(no)
	}
}

func TestP7_3BadAndTable(t *testing.T) {
	u := made(t, 4096, 4096)
	good(t, u, "40 01 61 01 62", row(1, "a", "b"))
	if rows, no := u.Block(unhex(t, "20 3F 81 01 40 01 63 01 64 80")); rows != nil || no != api.ErrIndex || !u.Bad() {
		t.Error(rows, no)
	}
	// What precedes the error was done.
	tableIs(t, u, 1, 34, 160)
	for _, block := range []string{"", "82", "80"} {
		if rows, no := u.Block(unhex(t, block)); rows != nil || no != api.ErrArg || !u.Bad() {
			t.Error(rows, no)
		}
	}
	tableIs(t, u, 1, 34, 160)
}

func TestP7_4TableStaysWithinTop(t *testing.T) {
	for _, top := range []int{0, 33, 34, 100} {
		u := made(t, top, 4096)
		for range 10 {
			if _, no := u.Block(unhex(t, "40 01 61 01 62 40 01 63 02 64 65 58 01 61")); no != api.OK {
				t.Fatal(no)
			}
			if _, size, most := u.Table(); size > top || most != top {
				t.Error(top, size, most)
			}
		}
	}
}

func TestP7_4WrittenRowsAreRead(t *testing.T) {
	texts := []string{"", "a", "www.example.com", "\x00\xff\n", strings.Repeat("%", 300), strings.Repeat("a", 300)}
	u := made(t, 4096, api.MaxInt)
	for _, name := range texts {
		for _, value := range texts {
			var block []byte
			var want []api.Row
			for how, first := range map[int]byte{1: 0x40, 2: 0x00, 3: 0x10} {
				coded := huff.Encode(name)
				block = append(block, first)
				block = append(block, pint.Put(nil, 7, 0x80, len(coded))...)
				block = append(block, coded...)
				block = append(block, pint.Put(nil, 7, 0, len(value))...)
				block = append(block, value...)
				want = append(want, row(how, name, value))
			}
			if rows, no := u.Block(block); no != api.OK || !slices.Equal(rows, want) {
				t.Errorf("%q %q: %d", name, value, no)
			}
		}
	}
}
