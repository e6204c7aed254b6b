package stream

import (
	"math"
	"testing"
)

func TestP13_1Next(t *testing.T) {
	for state, row := range map[int]map[int]int{
		Idle:       {Headers: Open, HeadersEnd: HalfRemote, Sent + Headers: Open, Sent + HeadersEnd: HalfLocal},
		Open:       {HeadersEnd: HalfRemote, DataEnd: HalfRemote, Headers: Open, Data: Open, Reset: Closed, Sent + HeadersEnd: HalfLocal, Sent + DataEnd: HalfLocal, Sent + Headers: Open, Sent + Data: Open, Sent + Reset: Closed},
		HalfLocal:  {HeadersEnd: Closed, DataEnd: Closed, Headers: HalfLocal, Data: HalfLocal, Reset: Closed, Sent + Reset: Closed},
		HalfRemote: {Sent + HeadersEnd: Closed, Sent + DataEnd: Closed, Sent + Headers: HalfRemote, Sent + Data: HalfRemote, Sent + Reset: Closed, Reset: Closed},
		Closed:     {},
		-1:         {},
		5:          {},
	} {
		for event := -20; event <= 30; event++ {
			want, ok := row[event]
			if !ok {
				want = state
			}
			if got, is := Next(state, event); got != want || is != ok {
				t.Error(state, event, got, is)
			}
		}
	}
}

func TestP13_1Numbers(t *testing.T) {
	if Idle != 0 || Open != 1 || HalfLocal != 2 || HalfRemote != 3 || Closed != 4 {
		t.Error("states")
	}
	if HeadersEnd != 1 || Headers != 2 || DataEnd != 3 || Data != 4 || Reset != 5 || Sent != 10 {
		t.Error("events")
	}
	for _, n := range []int{math.MinInt64, math.MaxInt64} {
		if got, ok := Next(n, Headers); got != n || ok {
			t.Error(n, got, ok)
		}
		if got, ok := Next(Open, n); got != Open || ok {
			t.Error(n, got, ok)
		}
	}
}

func TestP13_2Run(t *testing.T) {
	for i, c := range []struct {
		state  int
		events []int
		want   int
		n      int
	}{
		{Idle, []int{Headers, DataEnd, Sent + Headers, Sent + DataEnd}, Closed, 4},
		{Idle, []int{HeadersEnd, Data}, HalfRemote, 1},
		{Idle, []int{Data}, Idle, 0},
		{Open, []int{Reset, Reset}, Closed, 1},
		{Open, nil, Open, 0},
		{77, nil, 77, 0},
		{77, []int{Data}, 77, 0},
		{Idle, []int{Headers, 6, Data}, Open, 1},
		{Idle, []int{Headers, Data, Data, Sent + Reset, Headers}, Closed, 4},
	} {
		if got, n := Run(c.state, c.events...); got != c.want || n != c.n {
			t.Error(i, got, n)
		}
	}
}

func TestP13_3EachSideEndsOnce(t *testing.T) {
	events := []int{HeadersEnd, Headers, DataEnd, Data, Reset}
	var walk func(state, depth, received, sent int)
	walk = func(state, depth, received, sent int) {
		if received > 1 || sent > 1 {
			t.Error("a side ends twice")
		}
		if depth == 0 {
			return
		}
		for _, e := range events {
			for _, add := range []int{0, Sent} {
				next, ok := Next(state, e+add)
				if !ok {
					continue
				}
				if state == Closed {
					t.Error("closed stays closed")
				}
				r, s := received, sent
				if e == HeadersEnd || e == DataEnd {
					if add == 0 {
						r++
					} else {
						s++
					}
				}
				walk(next, depth-1, r, s)
			}
		}
	}
	walk(Idle, 5, 0, 0)
}
