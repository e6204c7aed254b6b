package fields

import (
	"math"
	"strings"
	"testing"

	"reservoir/api"
)

const chapter = "1 :authority; 2 :method=GET; 3 :method=POST; 4 :path=/; 5 :path=/index.html; 6 :scheme=http; 7 :scheme=https; 8 :status=200; 9 :status=204; 10 :status=206; 11 :status=304; 12 :status=400; 13 :status=404; 14 :status=500; 15 accept-charset; 16 accept-encoding=gzip, deflate; 17 accept-language; 18 accept-ranges; 19 accept; 20 access-control-allow-origin; 21 age; 22 allow; 23 authorization; 24 cache-control; 25 content-disposition; 26 content-encoding; 27 content-language; 28 content-length; 29 content-location; 30 content-range; 31 content-type; 32 cookie; 33 date; 34 etag; 35 expect; 36 expires; 37 from; 38 host; 39 if-match; 40 if-modified-since; 41 if-none-match; 42 if-range; 43 if-unmodified-since; 44 last-modified; 45 link; 46 location; 47 max-forwards; 48 proxy-authenticate; 49 proxy-authorization; 50 range; 51 referer; 52 refresh; 53 retry-after; 54 server; 55 set-cookie; 56 strict-transport-security; 57 transfer-encoding; 58 user-agent; 59 vary; 60 via; 61 www-authenticate"

func TestP5_1Static(t *testing.T) {
	rows := strings.Split(chapter, "; ")
	if len(rows) != 61 {
		t.Fatal(len(rows))
	}
	for i, row := range rows {
		_, field, _ := strings.Cut(row, " ")
		name, value, _ := strings.Cut(field, "=")
		if f, ok := Static(i + 1); f != (api.Field{Name: name, Value: value}) || !ok {
			t.Error(i+1, f, ok)
		}
	}
	for _, i := range []int{0, 62, -1, 63, math.MaxInt64, math.MinInt64} {
		if f, ok := Static(i); f != (api.Field{}) || ok {
			t.Error(i, f, ok)
		}
	}
}

func TestP5_2BytesAndSum(t *testing.T) {
	for _, c := range []struct {
		f    api.Field
		want int
	}{{api.Field{Name: "a", Value: "bc"}, 35}, {api.Field{}, 32}, {api.Field{Name: "é"}, 34}, {api.Field{Value: "\x00\xff"}, 34}, {api.Field{Name: "abc"}, 35}} {
		if got := Bytes(c.f); got != c.want {
			t.Error(c, got)
		}
	}
	if Sum(nil) != 0 || Sum([]api.Field{}) != 0 {
		t.Error("the empty sum")
	}
	if got := Sum([]api.Field{{Name: "a", Value: "bc"}, {}, {Name: "abc"}}); got != 35+32+35 {
		t.Error(got)
	}
}
