package token

import (
	"slices"
	"strings"
	"testing"

	"reservoir/api"
)

const letters = "abcdefghijklmnopqrstuvwxyzABCDEFGHIJKLMNOPQRSTUVWXYZ0123456789"

const signs = "!#$%&'*+-.^_|~\x60"

func field(name, value string) api.Field { return api.Field{Name: name, Value: value} }

func TestP14_1Token(t *testing.T) {
	for i := range 256 {
		c := string([]byte{byte(i)})
		want := strings.Contains(letters+signs, c)
		for _, s := range []string{c, "a" + c, c + "a", "a" + c + "a"} {
			if Token(s) != want {
				t.Errorf("%q", s)
			}
		}
	}
	if Token("") || !Token(letters+signs) || Token("é") {
		t.Error("tokens")
	}
}

func TestP14_1Value(t *testing.T) {
	for i := range 256 {
		c := string([]byte{byte(i)})
		inner := (i >= 32 || i == 9) && i != 127
		if Value("a"+c+"a") != inner {
			t.Errorf("%q", c)
		}
		outer := inner && i != 9 && i != 32
		if Value(c) != outer || Value(c+"a") != outer || Value("a"+c) != outer {
			t.Errorf("%q", c)
		}
	}
	if !Value("") || !Value("a \t b") {
		t.Error("values")
	}
}

func TestP14_1LowerAndTrim(t *testing.T) {
	for i := range 256 {
		c := string([]byte{byte(i)})
		want := c
		if i >= 'A' && i <= 'Z' {
			want = string([]byte{byte(i + 32)})
		}
		if got := Lower("x" + c); got != "x"+want {
			t.Errorf("%q %q", c, got)
		}
	}
	for s, want := range map[string]string{"": "", " ": "", "\t \t": "", " a b\t": "a b", "a": "a", "\na\n": "\na\n", "a ": "a", "\ta": "a", "\u00a0a": "\u00a0a", "a\r": "a\r"} {
		if got := Trim(s); got != want {
			t.Errorf("%q %q", s, got)
		}
	}
}

func TestP14_2Split(t *testing.T) {
	for s, want := range map[string][]string{
		`a, "b,c" ,,d`:       {"a", `"b,c"`, "d"},
		"":                   nil,
		",":                  nil,
		" , \t,":             nil,
		"a":                  {"a"},
		"a,":                 {"a"},
		",a":                 {"a"},
		" a b ,\tc":          {"a b", "c"},
		`"a\",b", c`:         {`"a\",b"`, "c"},
		`"a\\",b`:            {`"a\\"`, "b"},
		`a\,b`:               {`a\`, "b"},
		`a\",",b`:            {`a\","`, "b"},
		`x="1,2"y",",z`:      {`x="1,2"y","`, "z"},
		`""`:                 {`""`},
		"\"\\\x00,\"":        {"\"\\\x00,\""},
		"a\nb,\n":            {"a\nb", "\n"},
		`"` + "\\é" + `,",b`: {`"` + "\\é" + `,"`, "b"},
	} {
		if got, ok := Split(s); !slices.Equal(got, want) || !ok {
			t.Errorf("%q: %q %v", s, got, ok)
		}
	}
	for _, s := range []string{`"`, `"a`, `a,"`, `"a\"`, `"\`, `"""`, `a"b,c`, `"a\",b`} {
		if got, ok := Split(s); got != nil || ok {
			t.Errorf("%q: %q %v", s, got, ok)
		}
	}
}

func TestP14_3Unquote(t *testing.T) {
	for s, want := range map[string]string{`"a\"b"`: `a"b`, "a": "a", letters + signs: letters + signs, `""`: "", `"a b,=;"`: "a b,=;", `"\a\\"`: `a\`, "\"\t\"": "\t", "\"\x80\xff\"": "\x80\xff", "\"\\\t\"": "\t", `"\""`: `"`} {
		if got, ok := Unquote(s); got != want || !ok {
			t.Errorf("%q: %q %v", s, got, ok)
		}
	}
	for _, s := range []string{"", "a b", `"`, `"a`, `a"`, `"a"b"`, `"a\"`, `"\"`, `"""`, "\"\x00\"", "\"\n\"", "\"\\\n\"", "\"\x7f\"", "\"\\\x7f\"", `'a b'`, ` "a"`, `"a" `, "a,", "é"} {
		if got, ok := Unquote(s); got != "" || ok {
			t.Errorf("%q: %q %v", s, got, ok)
		}
	}
}

func TestP14_4Of(t *testing.T) {
	for s, want := range map[string]Pair{"Max-Age=5": {"max-age", "5", true}, `x="1"`: {"x", "1", true}, "No-Store": {Name: "no-store"}, `X="A=B"`: {"x", "A=B", true}, `x=""`: {"x", "", true}, "A=B": {"a", "B", true}} {
		if got, ok := Of(s); got != want || !ok {
			t.Errorf("%q: %v %v", s, got, ok)
		}
	}
	for _, s := range []string{"", "=5", "a=", "a =5", "a= 5", "a b", "a=b=c", `"a"=b`, `"a"`, `a="`, "=", "a b=c"} {
		if got, ok := Of(s); got != (Pair{}) || ok {
			t.Errorf("%q: %v %v", s, got, ok)
		}
	}
}

func TestP14_5All(t *testing.T) {
	l := []api.Field{field("a", "1"), field("b", "2"), field("a", ""), field("A", "3"), field("a", "4, 5")}
	for _, c := range []struct {
		name, want string
		n          int
	}{{"a", "1, , 4, 5", 3}, {"b", "2", 1}, {"A", "3", 1}, {"c", "", 0}, {"", "", 0}} {
		if got, n := All(l, c.name); got != c.want || n != c.n {
			t.Errorf("%q: %q %d", c.name, got, n)
		}
	}
	if got, n := All(nil, "a"); got != "" || n != 0 {
		t.Error(got, n)
	}
}

func TestP14_5Pairs(t *testing.T) {
	l := []api.Field{field("a", "X=1, ="), field("b", "y"), field("a", `z, x="2,3", q r`)}
	if got := Pairs(l, "a"); !slices.Equal(got, []Pair{{"x", "1", true}, {Name: "z"}, {"x", "2,3", true}}) {
		t.Error(got)
	}
	if Pairs(l, "c") != nil || Pairs(nil, "a") != nil {
		t.Error("no fields, no pairs")
	}
	if got := Pairs(append(l, field("a", `"`)), "a"); got != nil {
		t.Error(got)
	}
	// A quoted string may go from one field to the next.
	if got := Pairs([]api.Field{field("a", `x="1`), field("a", `2"`)}, "a"); !slices.Equal(got, []Pair{{"x", "1, 2", true}}) {
		t.Error(got)
	}
}

func TestP14_6JoinedAndQuotedAgain(t *testing.T) {
	parts := []string{"a", `"b,c"`, `x="\","`, "d e", `"\\"`}
	for i := range parts {
		for j := i; j <= len(parts); j++ {
			if got, ok := Split(strings.Join(parts[i:j], ",")); !slices.Equal(got, parts[i:j]) || !ok {
				t.Error(i, j, got)
			}
		}
	}
	for _, s := range []string{`"a\"b"`, `""`, `"\\\a"`, "token", "\"\t \xff\""} {
		once, _ := Unquote(s)
		quoted := `"` + strings.NewReplacer(`\`, `\\`, `"`, `\"`).Replace(once) + `"`
		if twice, ok := Unquote(quoted); twice != once || !ok {
			t.Errorf("%q %q", s, twice)
		}
	}
}
