package shell

import (
	"math"
	"reflect"
	"slices"
	"strconv"
	"strings"
	"testing"

	"reservoir/api"
)

func config() api.Cache {
	return api.Cache{Budget: 10000, Share: 0.1, Conn: api.Config{Streams: 2, Window: 65535, List: 65536}, Trans: 4, Ups: 1}
}

func row(how int, name, value string) api.Row {
	return api.Row{Field: api.Field{Name: name, Value: value}, How: how}
}

// pairs are steps without needless fields, and their lines.
func pairs() map[string]api.Step {
	rows := []api.Row{row(1, ":path", "/a b"), row(-3, "", "="), row(0, "x%", "")}
	return map[string]api.Step{
		"open 0":              {Kind: api.WOpen},
		"open -7":             {Kind: api.WOpen, N: -7},
		"close 12":            {Kind: api.WClose, N: 12},
		"cut 3":               {Kind: api.WCut, N: 3},
		"clock 0":             {Kind: api.WClock},
		"clock -1":            {Kind: api.WClock, Size: -1},
		"send 1 2":            {Kind: api.WSend, N: 1, Size: 2},
		"hear 1 -2":           {Kind: api.WHear, N: 1, Size: -2},
		"pass 0 1000":         {Kind: api.WPass, Size: 1000},
		"reply 7 0":           {Kind: api.WReply, N: 7},
		"cancel 1 3":          {Kind: api.WCancel, N: 1, Stream: 3},
		"break 0 5":           {Kind: api.WBreak, Stream: 5},
		"text 1 3 on =x%3d":   {Kind: api.WText, N: 1, Stream: 3, Text: "x="},
		"text 1 3 end =":      {Kind: api.WText, N: 1, Stream: 3, End: true},
		"more 2 9 end =%25~!": {Kind: api.WMore, N: 2, Stream: 9, Text: "%~!", End: true},
		"more 2 9 on =":       {Kind: api.WMore, N: 2, Stream: 9},
		"ask 0 end =":         {Kind: api.WAsk, End: true},
		"ask 0 on =a":         {Kind: api.WAsk, Text: "a"},
		"ask 0 end = 1=:path=/a%20b -3==%3d 0=x%25=":                 {Kind: api.WAsk, End: true, Rows: rows},
		"answer 4 1 on =%00%ff%7f%20 1=:path=/a%20b -3==%3d 0=x%25=": {Kind: api.WAnswer, N: 4, Stream: 1, Text: "\x00\xff\x7f ", Rows: rows},
		"answer 0 0 end =":           {Kind: api.WAnswer, End: true},
		"clock 9223372036854775807":  {Kind: api.WClock, Size: math.MaxInt64},
		"clock -9223372036854775807": {Kind: api.WClock, Size: -math.MaxInt64},
		"ask 0 on =%c3%a9":           {Kind: api.WAsk, Text: "é"},
	}
}

func same(a, b api.Step) bool {
	rows := slices.Equal(a.Rows, b.Rows)
	a.Rows, b.Rows = nil, nil
	return rows && reflect.DeepEqual(a, b)
}

func TestP30_1Line(t *testing.T) {
	for line, s := range pairs() {
		if got := Line(s); got != line {
			t.Errorf("%q: %q", line, got)
		}
	}
	if got := Line(api.Step{Kind: api.WAsk, End: true, Rows: []api.Row{row(1, ":path", "/a b")}}); got != "ask 0 end = 1=:path=/a%20b" {
		t.Error(got)
	}
	for _, kind := range []int{0, -1, 15, math.MinInt64, math.MaxInt64} {
		if got := Line(api.Step{Kind: kind, N: 1, Text: "x"}); got != "" {
			t.Error(kind, got)
		}
	}
}

func TestP30_1FieldsThatAreNotMentioned(t *testing.T) {
	for line, s := range pairs() {
		x := api.Step{Kind: s.Kind, N: 99, Size: 98, Stream: 97, Rows: []api.Row{row(9, "q", "q")}, Text: "q", End: true}
		name, parts := form(s.Kind)
		if strings.ContainsRune(parts, 'n') {
			x.N = s.N
		}
		if strings.ContainsRune(parts, 'z') {
			x.Size = s.Size
		}
		if strings.ContainsRune(parts, 's') {
			x.Stream = s.Stream
		}
		if strings.ContainsRune(parts, 't') {
			x.Text, x.End = s.Text, s.End
		}
		if strings.ContainsRune(parts, 'r') {
			x.Rows = s.Rows
		}
		if got := Line(x); got != line || !strings.HasPrefix(line, name+" ") {
			t.Errorf("%q: %q", line, got)
		}
	}
}

func TestP30_1Words(t *testing.T) {
	for i := range 256 {
		c := string([]byte{byte(i)})
		want := c
		if i <= 32 || i >= 127 || c == "%" || c == "=" {
			want = "%" + strconv.FormatInt(int64(256+i), 16)[1:]
		}
		if got := Line(api.Step{Kind: api.WText, Text: c}); got != "text 0 0 on ="+want {
			t.Errorf("%d: %q", i, got)
		}
		s, no := Parse("text 0 0 on =" + want)
		if s.Text != c || no != api.OK {
			t.Errorf("%d: %q %d", i, s.Text, no)
		}
		// Each byte has one way to be written.
		other := "%" + strconv.FormatInt(int64(256+i), 16)[1:]
		if want != c {
			other = c
			if strings.ToUpper(want) != want {
				other = strings.ToUpper(want)
			}
		}
		if s, no := Parse("text 0 0 on =" + other); no != api.ErrForm || !same(s, api.Step{}) {
			t.Errorf("%d: %q %v %d", i, other, s, no)
		}
	}
}

func TestP30_2Parse(t *testing.T) {
	for line, want := range pairs() {
		if s, no := Parse(line); !same(s, want) || no != api.OK {
			t.Errorf("%q: %+v %d", line, s, no)
		}
	}
}

func TestP30_2ParseRejects(t *testing.T) {
	for _, line := range []string{
		"", " ", "open", "open ", "open 01", "open 1 ", " open 1", "open  1", "open 1 2", "Open 1", "opens 1", "open +1", "open -0", "open -", "open --1", "open 1a", "open a", "open 00", "open -01", "open 1.", "open 0x1", "open ١",
		"open 9223372036854775808", "open -9223372036854775809", "open 99999999999999999999999", "open 92233720368547758070",
		"clock", "clock 1 2", "send 1", "send 1 2 3", "cancel 1", "cancel 1 2 3", "cancel 1 x", "open\t1", "open 1\n", "open 1\r", "\nopen 1",
		"text 1 3", "text 1 3 on", "text 1 3 on x", "text 1 3 on =x =y", "text 1 3 =x", "text 1 3 ON =x", "text 1 3 off =x", "text 1 3 on ==", "text 1 3 on =a=b", "text 1 3 on = ", "text 1 on =x", "text 1 3 on =x 1=a=b",
		"text 1 3 on =%2F", "text 1 3 on =%2f", "text 1 3 on =%", "text 1 3 on =%2", "text 1 3 on =%0G", "text 1 3 on =%3D", "text 1 3 on =a%4", "text 1 3 on =%%", "text 1 3 on =\x7f", "text 1 3 on =é", "text 1 3 on =%61",
		"ask 0", "ask 0 end", "ask 0 end = ", "ask 0 end = 1", "ask 0 end = 1=a", "ask 0 end = 1=a=b=c", "ask 0 end = =a=b", "ask 0 end = x=a=b", "ask 0 end = 01=a=b", "ask 0 end =  1=a=b", "ask 0 end = 1=a=b ", "ask 0 end = 1=a =b", "ask 0 end 1=a=b", "ask 0 end = 1=%61=b", "ask 0 end = 1=a=%",
		"answer 0 end =", "answer 0 1 end", "answer 0 1 1=a=b", "heard 0 1", "yes 0 0", "#", "open 1 # no",
	} {
		if s, no := Parse(line); !same(s, api.Step{}) || no != api.ErrForm {
			t.Errorf("%q: %+v %d", line, s, no)
		}
	}
}

func TestP30_2Long(t *testing.T) {
	front := "text 0 0 on ="
	line := front + strings.Repeat("x", api.MaxText-len(front))
	if s, no := Parse(line); no != api.OK || len(s.Text) != len(line)-len(front) {
		t.Error(no)
	}
	for _, long := range []string{line + "x", strings.Repeat(" ", api.MaxText+1), line + "%"} {
		if s, no := Parse(long); no != api.ErrLong || !same(s, api.Step{}) {
			t.Error(no)
		}
	}
	if _, no := Parse(strings.Repeat(" ", api.MaxText)); no != api.ErrForm {
		t.Error(no)
	}
}

const whole = `open 0
ask 0 end = 1=:method=GET 1=:scheme=https 1=:authority=a 1=:path=/
ask 0 on =xy 1=:method=POST 1=:scheme=https 1=:authority=a 1=:path=/
send 0 1000
pass 0 1000
answer 0 1 end =hi 1=:status=200
answer 0 3 on =abc 1=:status=404
reply 0 1000
hear 0 1000
break 0 3
reply 0 1000
open 0
clock 5
`

func TestP30_3Run(t *testing.T) {
	out, at, no := Run(config(), whole)
	if at != 0 || no != api.OK {
		t.Fatal(at, no)
	}
	want := []string{"yes 0 0", "yes 1 0", "yes 3 2", "yes 0 *", "yes 0 *", "yes 0 2", "yes 0 3", "yes 0 *", "yes 0 *", "yes 0 0", "yes 0 *", "no 0 0", "yes 0 0", "heard 0 1 200 2 end", "heard 0 3 404 3 open", ""}
	got := strings.Split(out, "\n")
	for i := range got {
		if i < len(want) && strings.HasSuffix(want[i], "*") && strings.HasPrefix(got[i], want[i][:6]) && got[i] != "yes 0 0" {
			got[i] = want[i]
		}
	}
	if !slices.Equal(got, want) {
		t.Error(got)
	}
	// The last line feed may lack; and a reset is heard.
	again, _, no := Run(config(), strings.TrimSuffix(whole, "\n"))
	if again != out || no != api.OK {
		t.Error(again)
	}
	out, _, _ = Run(config(), whole+"hear 0 1000")
	if !strings.HasSuffix(out, "heard 0 1 200 2 end\nheard 0 3 404 3 reset\n") {
		t.Error(out)
	}
}

func TestP30_3Lines(t *testing.T) {
	bad := config()
	bad.Ups = 0
	for i, c := range []struct {
		cfg  api.Cache
		text string
		out  string
		at   int
		no   api.Errno
	}{
		{config(), "", "", 0, api.OK},
		{config(), "open 0", "yes 0 0\n", 0, api.OK},
		{config(), "open 0\n", "yes 0 0\n", 0, api.OK},
		{config(), "open 0\nopen 0\nopen 9", "yes 0 0\nno 0 0\nno 0 0\n", 0, api.OK},
		{config(), "\n", "", 0, api.ErrForm},
		{config(), "open 0\n\n", "", 1, api.ErrForm},
		{config(), "open 0\n\nopen 1\n", "", 1, api.ErrForm},
		{config(), "open 0\nopen 1\nopen 01\nopen", "", 2, api.ErrForm},
		{config(), "open 0\r\n", "", 0, api.ErrForm},
		{config(), "open 0\n" + strings.Repeat("x", api.MaxText+1), "", 1, api.ErrLong},
		{config(), "open 0\nx\n" + strings.Repeat("x", api.MaxText+1), "", 1, api.ErrForm},
		{bad, "open 0", "", 0, api.ErrArg},
		{bad, "", "", 0, api.ErrArg},
		{bad, "open 0\nx", "", 1, api.ErrForm},
	} {
		if out, at, no := Run(c.cfg, c.text); out != c.out || at != c.at || no != c.no {
			t.Errorf("%d: %q %d %d", i, out, at, no)
		}
	}
}

func TestP30_4ThereAndBack(t *testing.T) {
	numbers := []int{0, 1, -1, 9, 10, -10, 1 << 40, math.MaxInt64, -math.MaxInt64}
	texts := []string{"", "a", " ", "=", "%", "a=b c%20", "\n", "\x00\xff", "é", strings.Repeat("~", 300)}
	for kind := api.WOpen; kind <= api.WClock; kind++ {
		for i := range 200 {
			s := api.Step{Kind: kind, N: numbers[i%9], Size: numbers[i*2%9], Stream: numbers[i*4%9], Text: texts[i*7%10], End: i%2 == 0}
			for k := range i % 4 {
				s.Rows = append(s.Rows, row(numbers[(i+k)%9], texts[(i*3+k)%10], texts[(i+k*3)%10]))
			}
			line := Line(s)
			got, no := Parse(line)
			if no != api.OK || Line(got) != line {
				t.Fatal(line, no)
			}
			_, parts := form(kind)
			if strings.Contains(parts, "r") && (!slices.Equal(got.Rows, s.Rows) || got.Text != s.Text || got.End != s.End) {
				t.Fatal(line, got)
			}
			if strings.Contains(parts, "n") && got.N != s.N || strings.Contains(parts, "z") && got.Size != s.Size || strings.Contains(parts, "s") && got.Stream != s.Stream {
				t.Fatal(line, got)
			}
		}
	}
}
