package pack

import (
	"bytes"
	"encoding/hex"
	"math"
	"slices"
	"strings"
	"testing"

	"reservoir/api"
	"reservoir/unpack"
)

func unhex(t *testing.T, s string) []byte {
	t.Helper()
	b, err := hex.DecodeString(strings.ReplaceAll(s, " ", ""))
	if err != nil {
		t.Fatal(err)
	}
	return b
}

func row(how int, name, value string) api.Row {
	return api.Row{Field: api.Field{Name: name, Value: value}, How: how}
}

func made(t *testing.T, most int) *Packer {
	t.Helper()
	p, no := New(most)
	if no != api.OK {
		t.Fatal(most, no)
	}
	return p
}

func writes(t *testing.T, p *Packer, want string, l ...api.Row) {
	t.Helper()
	if got := p.Block(l); !bytes.Equal(got, unhex(t, want)) {
		t.Errorf("% X, not %s", got, want)
	}
}

func tableIs(t *testing.T, p *Packer, n, size, most int) {
	t.Helper()
	if a, b, c := p.Table(); a != n || b != size || c != most {
		t.Error("table", a, b, c)
	}
}

func TestP8_1New(t *testing.T) {
	for _, most := range []int{0, 1, 4096, api.MaxTable} {
		tableIs(t, made(t, most), 0, 0, most)
	}
	for _, most := range []int{-1, api.MaxTable + 1, math.MaxInt64, math.MinInt64} {
		if p, no := New(most); p != nil || no != api.ErrArg {
			t.Error(most, no)
		}
	}
}

func TestP8_2And3Resize(t *testing.T) {
	get := row(1, ":method", "GET")
	p := made(t, 4096)
	for _, c := range []struct {
		sizes []int
		want  string
	}{
		{nil, "82"},
		{[]int{0, 100}, "20 3F 45 82"},
		{nil, "82"},
		{[]int{100}, "3F 45 82"},
		{[]int{4096, 30, 50, 100}, "3E 3F 45 82"},
		{[]int{100, 50, 30}, "3E 82"},
		{[]int{30, 30}, "3E 82"},
		{[]int{31, 32}, "3F 00 3F 01 82"},
		{[]int{api.MaxTable}, "3F E1 FF 03 82"},
		{[]int{-1, api.MaxTable + 1}, "82"},
		{[]int{5, -1, 9}, "25 29 82"},
	} {
		for _, n := range c.sizes {
			want := api.OK
			if n < 0 || n > api.MaxTable {
				want = api.ErrArg
			}
			if no := p.Resize(n); no != want {
				t.Error(n, no)
			}
		}
		writes(t, p, c.want, get)
	}
	tableIs(t, p, 0, 0, 9)
	p.Resize(7)
	writes(t, p, "27")
	writes(t, p, "")
}

func TestP8_2ResizeEvicts(t *testing.T) {
	p := made(t, 4096)
	p.Block([]api.Row{row(1, "a", "1"), row(1, "b", "2")})
	tableIs(t, p, 2, 68, 4096)
	if no := p.Resize(40); no != api.OK {
		t.Error(no)
	}
	tableIs(t, p, 1, 34, 40)
	writes(t, p, "3F 09 BE", row(1, "b", "2"))
}

func TestP8_3Examples(t *testing.T) {
	p := made(t, 4096)
	writes(t, p, "82 86 84 41 8C F1 E3 C2 E5 F2 3A 6B A0 AB 90 F4 FF", row(1, ":method", "GET"), row(1, ":scheme", "http"), row(1, ":path", "/"), row(1, ":authority", "www.example.com"))
	writes(t, p, "10 88 25 A8 49 E9 5B A9 7D 7F 89 25 A8 49 E9 5B B8 E8 B4 BF", row(3, "custom-key", "custom-value"))
	tableIs(t, p, 1, 57, 4096)
}

func TestP8_3Ways(t *testing.T) {
	p := made(t, 4096)
	// A whole field is an index, but for how 3.
	for _, how := range []int{1, 2, 0, 4, -1, math.MaxInt64} {
		writes(t, p, "84", row(how, ":path", "/"))
	}
	writes(t, p, "14 01 2F", row(3, ":path", "/"))
	// A name alone, in each way; 2 is what all others are.
	writes(t, p, "0F 06 01 35", row(2, "age", "5"))
	writes(t, p, "0F 06 01 35", row(0, "age", "5"))
	writes(t, p, "0F 06 01 35", row(9, "age", "5"))
	writes(t, p, "1F 06 01 35", row(3, "age", "5"))
	tableIs(t, p, 0, 0, 4096)
	writes(t, p, "55 01 35", row(1, "age", "5"))
	tableIs(t, p, 1, 36, 4096)
	writes(t, p, "BE BE", row(1, "age", "5"), row(2, "age", "5"))
	writes(t, p, "1F 2F 01 35", row(3, "age", "5"))
	// New names; the second one finds what the first one added.
	writes(t, p, "40 01 58 01 59 7E 01 5A", row(1, "X", "Y"), row(1, "X", "Z"))
	writes(t, p, "00 00 00", row(2, "", ""))
	writes(t, p, "0F 2F 00", row(2, "X", ""))
	tableIs(t, p, 3, 36+34+34, 4096)
	writes(t, p, "BE BF C0", row(1, "X", "Z"), row(1, "X", "Y"), row(1, "age", "5"))
}

func TestP8_3Strings(t *testing.T) {
	p := made(t, 0)
	// Plain unless the code is shorter.
	writes(t, p, "00 01 61 01 61", row(1+1, "a", "a"))
	writes(t, p, "00 01 61 82 64 02", row(2, "a", "302"))
	writes(t, p, "00 01 61 02 26 26", row(2, "a", "&&"))
	writes(t, p, "40 01 61 01 30", row(1, "a", "0"))
	long := strings.Repeat("&", 127)
	got := p.Block([]api.Row{row(2, "a", long)})
	if !bytes.Equal(got, append(unhex(t, "00 01 61 7F 00"), long...)) {
		t.Errorf("% X", got[:10])
	}
	got = p.Block([]api.Row{row(2, "a", strings.Repeat("0", 256))})
	if !bytes.Equal(got[:6], unhex(t, "00 01 61 FF 21 00")) || len(got) != 5+160 {
		t.Errorf("% X", got[:10])
	}
}

func TestP8_4And7_4RoundTrip(t *testing.T) {
	for _, first := range []int{0, 64, 4096} {
		p := made(t, first)
		u, _ := unpack.New(4096, api.MaxInt)
		// Announced, so that both begin with the same size.
		p.Resize(first)
		for i := range 400 {
			if i%17 == 0 {
				p.Resize(i * 31 % 4097)
			}
			if i%34 == 0 {
				p.Resize(i * 57 % 4097)
			}
			l := rows(i)
			got, no := u.Block(p.Block(l))
			if no != api.OK || !slices.Equal(got, expected(l, got)) {
				t.Fatal(first, i, no, got)
			}
			if a, b, c := u.Table(); true {
				tableIs(t, p, a, b, c)
			}
		}
	}
}

// rows makes some rows, often ones that were there before.
func rows(seed int) []api.Row {
	var l []api.Row
	names := []string{"age", "x", ":method", "", "cookie", "long-name-" + strings.Repeat("n", seed%60), ":path"}
	for k := range seed % 6 {
		n := seed*7 + k*5
		l = append(l, row(n%5, names[n%len(names)], strings.Repeat(string(rune('0'+n%9)), n%11)))
	}
	return append(l, row(1, ":method", "GET"), row(3, ":path", "/"), row(2, ":path", "/"))
}

// expected is what l becomes: an unknown how is 2, and an index is 1.
func expected(l, got []api.Row) []api.Row {
	want := slices.Clone(l)
	for i, r := range want {
		if r.How < 1 || r.How > 3 {
			want[i].How = 2
		}
		if i < len(got) && got[i].How == 1 && r.How != 3 {
			want[i].How = 1
		}
	}
	return want
}
