package day

import (
	"math"
	"testing"
	"time"

	"reservoir/api"
)

const layout = "Mon, 02 Jan 2006 15:04:05 GMT"

func TestP17_1ReadExamples(t *testing.T) {
	for s, want := range map[string]int{"Sun, 06 Nov 1994 08:49:37 GMT": 784111777, "Tue, 29 Feb 2000 00:00:00 GMT": 951782400, "Thu, 01 Jan 1970 00:00:00 GMT": 0, "Thu, 31 Dec 2037 23:59:59 GMT": 2145916799, "Wed, 31 Dec 1975 23:59:59 GMT": 189302399} {
		if got, ok := Read(s); got != want || !ok {
			t.Error(s, got, ok)
		}
	}
}

func TestP17_1ReadRejects(t *testing.T) {
	for _, s := range []string{
		"", "Mon, 06 Nov 1994 08:49:37 GMT", "Thu, 01 Jan 1970 00:00:60 GMT", "Thu, 01 Jan 1970 00:60:00 GMT", "Thu, 01 Jan 1970 24:00:00 GMT",
		"Wed, 31 Dec 1969 23:59:59 GMT", "Fri, 01 Jan 2038 00:00:00 GMT", "Sun, 06 Nov 94 08:49:37 GMT", "Sunday, 06-Nov-94 08:49:37 GMT", "Sun Nov  6 08:49:37 1994",
		"Thu, 29 Feb 2001 00:00:00 GMT", "Sun, 30 Feb 2000 00:00:00 GMT", "Wed, 30 Feb 2000 00:00:00 GMT", "Sun, 00 Nov 1994 08:49:37 GMT", "Sun, 32 Jan 1994 08:49:37 GMT", "Tue, 32 Jan 1994 00:00:00 GMT", "Thu, 31 Nov 1994 00:00:00 GMT",
		"sun, 06 Nov 1994 08:49:37 GMT", "Sun, 06 nov 1994 08:49:37 GMT", "Sun, 06 anF 1994 08:49:37 GMT", "Sun, 06 Nov 1994 08:49:37 UTC", "Sun, 06 Nov 1994 08:49:37 gmt",
		"Sun; 06 Nov 1994 08:49:37 GMT", "Sun, 06 Nov 1994 08.49:37 GMT", "Sun, 06 Nov 1994 08:49.37 GMT", "Sun, 06-Nov 1994 08:49:37 GMT", "Sun, 06 Nov-1994 08:49:37 GMT", "Sun, 06 Nov 1994-08:49:37 GMT", "Sun, 06 Nov 1994 08:49:37-GMT", "Sun,-06 Nov 1994 08:49:37 GMT",
		"Sun,  6 Nov 1994 08:49:37 GMT", "Sun, 6 Nov 1994 08:49:37 GMT", "Sun, +6 Nov 1994 08:49:37 GMT", "Sun, 06 Nov +994 08:49:37 GMT", "Sun, 06 Nov 1994 -8:49:37 GMT", "Sun, 06 Nov 1994 08:-9:37 GMT", "Sun, 06 Nov 1994 08:49:/7 GMT", "Sun, 06 Nov 1994 08:49::7 GMT",
		"Sun, 06 Nov 1994 08:49:37 GMT ", " Sun, 06 Nov 1994 08:49:37 GMT", "Sun, 06 Nov 1994 08:49:37 GM", "Sun, 06 \xc3\xa9v 1994 08:49:37 GMT", "0", "Xxx, 06 Nov 1994 08:49:37 GMT", "Sun, 06 Nov 9999 08:49:37 GMT",
		// Bytes beside the digits that add up to the right numbers.
		"Sun, /@ Nov 1994 08:49:37 GMT", "Sun, 06 Nov 1994 08:49:2A GMT", "Sun, 06 Nov 198> 08:49:37 GMT", "Sun, 06 Nov 1994 /B:49:37 GMT", "Sun, 06 Nov 1994 08:3C:37 GMT", "Sun, 06 Nov 0000 08:49:37 GMT",
	} {
		if got, ok := Read(s); got != 0 || ok {
			t.Error(s, got, ok)
		}
	}
}

func TestP17_1WeekdayMustBeTheDates(t *testing.T) {
	for i := range 14 {
		n := 784111777 + i*86400
		s := Show(n)
		for _, w := range []string{"Mon", "Tue", "Wed", "Thu", "Fri", "Sat", "Sun"} {
			if got, ok := Read(w + s[3:]); ok != (w == s[:3]) || ok && got != n {
				t.Error(w+s[3:], got, ok)
			}
		}
	}
}

func TestP17_2Show(t *testing.T) {
	for n, want := range map[int]string{784111777: "Sun, 06 Nov 1994 08:49:37 GMT", 0: "Thu, 01 Jan 1970 00:00:00 GMT", -1: "Thu, 01 Jan 1970 00:00:00 GMT", math.MinInt64: "Thu, 01 Jan 1970 00:00:00 GMT", api.MaxInt: "Tue, 19 Jan 2038 03:14:07 GMT", api.MaxInt + 1: "Tue, 19 Jan 2038 03:14:07 GMT", math.MaxInt64: "Tue, 19 Jan 2038 03:14:07 GMT", 951782400: "Tue, 29 Feb 2000 00:00:00 GMT", 951868799: "Tue, 29 Feb 2000 23:59:59 GMT", 951868800: "Wed, 01 Mar 2000 00:00:00 GMT"} {
		if got := Show(n); got != want {
			t.Error(n, got)
		}
	}
}

func TestP17_3EveryDay(t *testing.T) {
	for n := 0; n <= api.MaxInt; n += 43200 - 61 {
		want := time.Unix(int64(n), 0).UTC().Format(layout)
		s := Show(n)
		if s != want {
			t.Fatal(n, s, want)
		}
		got, ok := Read(s)
		if in := n <= 2145916799; ok != in || in && got != n {
			t.Fatal(n, s, got, ok)
		}
	}
	for d := range 24837 {
		for _, n := range []int{d * 86400, d*86400 + 86399} {
			if got, ok := Read(Show(n)); n <= 2145916799 && (got != n || !ok) {
				t.Fatal(n, got, ok)
			}
		}
	}
}
