package shell

import (
	"math"
	"strings"

	"reservoir/api"
	"reservoir/guard"
)

// reader goes through the pieces between the spaces of a line; it raises what
// is wrong as a fault.
type reader struct {
	pieces []string
	at     int
}

// must raises ErrForm unless ok holds.
func (r *reader) must(ok bool) {
	guard.Must(ok, int(api.ErrForm), r.at)
}

// next takes the next piece.
func (r *reader) next() string {
	r.must(r.at < len(r.pieces))
	r.at++
	return r.pieces[r.at-1]
}

// step reads the whole line.
func (r *reader) step() api.Step {
	kind, parts := r.kind()
	s := api.Step{Kind: kind}
	for _, part := range parts {
		switch part {
		case place:
			s.N = r.number(r.next())
		case size:
			s.Size = r.number(r.next())
		case stream:
			s.Stream = r.number(r.next())
		case tail:
			s.End, s.Text = r.tail()
		case list:
			for r.at < len(r.pieces) {
				s.Rows = append(s.Rows, r.row())
			}
		}
	}
	r.must(r.at == len(r.pieces))
	return s
}

// kind reads the first word, and returns what follows it.
func (r *reader) kind() (int, string) {
	first := r.next()
	for kind := api.WOpen; kind <= api.WClock; kind++ {
		if name, parts := form(kind); name == first {
			return kind, parts
		}
	}
	r.must(false)
	return 0, ""
}

// number reads a number without leading zeros.
func (r *reader) number(s string) int {
	sign := 1
	if strings.HasPrefix(s, "-") {
		sign, s = -1, s[1:]
		r.must(s != "0")
	}
	r.must(s != "" && (s[0] != '0' || s == "0"))
	n := 0
	for i := range len(s) {
		r.must(s[i] >= '0' && s[i] <= '9')
		digit := int(s[i] - '0')
		r.must(n <= (math.MaxInt-digit)/10)
		n = n*10 + digit
	}
	return sign * n
}

// tail reads whether a content ends, and the content.
func (r *reader) tail() (bool, string) {
	how := r.next()
	r.must(how == "on" || how == "end")
	text := r.next()
	r.must(strings.HasPrefix(text, "="))
	return how == "end", r.word(text[1:])
}

// row reads one row.
func (r *reader) row() api.Row {
	parts := strings.Split(r.next(), "=")
	r.must(len(parts) == 3)
	f := api.Field{Name: r.word(parts[1]), Value: r.word(parts[2])}
	return api.Row{Field: f, How: r.number(parts[0])}
}

// word reads a word, in the only way it is written.
func (r *reader) word(s string) string {
	var out []byte
	for i := 0; i < len(s); i++ {
		c := s[i]
		if c == '%' {
			r.must(i+2 < len(s))
			c = r.digit(s[i+1])<<4 | r.digit(s[i+2])
			r.must(coded(c))
			i += 2
		} else {
			r.must(!coded(c))
		}
		out = append(out, c)
	}
	return string(out)
}

// digit reads a hexadecimal digit.
func (r *reader) digit(c byte) byte {
	at := strings.IndexByte(digits, c)
	r.must(at >= 0)
	return byte(at)
}
