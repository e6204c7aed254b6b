package weigh

import (
	"math"
	"strconv"
	"testing"

	"reservoir/api"
)

var (
	nan    = math.NaN()
	inf    = math.Inf(1)
	minus0 = math.Copysign(0, -1)
)

func positiveZero(x float64) bool { return x == 0 && !math.Signbit(x) }

func TestP2_1QAccepts(t *testing.T) {
	for s, want := range map[string]float64{"0": 0, "0.": 0, "0.0": 0, "0.000": 0, "0.5": 0.5, "0.50": 0.5, "0.500": 0.5, "0.001": 0.001, "0.999": 0.999, "0.07": 0.07, "1": 1, "1.": 1, "1.0": 1, "1.00": 1, "1.000": 1} {
		if x, ok := Q(s); x != want || !ok || math.Signbit(x) {
			t.Error(s, x, ok)
		}
	}
	for n := range 1000 {
		digits := strconv.Itoa(1000 + n)[1:]
		want, _ := strconv.ParseFloat("0."+digits, 64)
		if x, ok := Q("0." + digits); x != want || !ok {
			t.Error(digits, x, ok)
		}
	}
}

func TestP2_1QRejects(t *testing.T) {
	for _, s := range []string{"", ".", ".5", "1.001", "1.1", "1.010", "0.0005", "1.0000", "00", "01", "10", "2", "0,5", "0.5 ", " 0.5", "-0", "+1", "0.a", "0.1a", "0.1.", "0x1", "1e0", "0.-1", "0./", "0.:", "1.00a", "\x00", "0.٣"} {
		if x, ok := Q(s); !positiveZero(x) || ok {
			t.Error(s, x, ok)
		}
	}
}

func TestP2_2Clean(t *testing.T) {
	for _, x := range []float64{nan, -nan, -1, -inf, minus0, 0, -math.SmallestNonzeroFloat64} {
		if y := Clean(x); !positiveZero(y) {
			t.Error(x, y)
		}
	}
	for _, c := range [][2]float64{{inf, 1}, {1, 1}, {1.5, 1}, {math.Nextafter(1, 2), 1}, {0.5, 0.5}, {math.Nextafter(1, 0), math.Nextafter(1, 0)}, {math.SmallestNonzeroFloat64, math.SmallestNonzeroFloat64}} {
		if y := Clean(c[0]); y != c[1] {
			t.Error(c, y)
		}
	}
}

func TestP2_3Share(t *testing.T) {
	for _, c := range []struct {
		n    int
		x    float64
		want int
	}{{1000, 0.1, 100}, {-5, 1, 0}, {999, 0.1, 99}, {7, 0.5, 3}, {10, 2, 10}, {10, inf, 10}, {10, nan, 0}, {10, minus0, 0}, {10, -1, 0}, {api.MaxInt, 1, api.MaxInt}, {math.MaxInt64, 1, api.MaxInt}, {api.MaxInt + 1, 0.5, 1<<30 - 1}, {math.MinInt64, 1, 0}, {3, 0.1, 0}, {10, math.Nextafter(1, 0), 9}, {1, math.Nextafter(1, 0), 0}} {
		if got := Share(c.n, c.x); got != c.want {
			t.Error(c, got)
		}
	}
}

func TestP2_3Seconds(t *testing.T) {
	for _, c := range []struct {
		x    float64
		want int
	}{{1.9, 1}, {-inf, 0}, {inf, api.MaxInt}, {1e300, api.MaxInt}, {nan, 0}, {0, 0}, {minus0, 0}, {-0.5, 0}, {0.999, 0}, {1, 1}, {api.MaxInt, api.MaxInt}, {api.MaxInt - 0.5, api.MaxInt - 1}, {api.MaxInt - 1, api.MaxInt - 1}, {api.MaxInt + 1, api.MaxInt}} {
		if got := Seconds(c.x); got != c.want {
			t.Error(c, got)
		}
	}
}

// ordered: each follows the one before it.
func ordered() []float64 {
	return []float64{nan, -inf, -math.MaxFloat64, -1, -math.SmallestNonzeroFloat64, minus0, 0, math.SmallestNonzeroFloat64, 0.5, 1, math.MaxFloat64, inf}
}

func TestP2_4And5Compare(t *testing.T) {
	for i, a := range ordered() {
		for j, b := range ordered() {
			want := 0
			if i < j {
				want = -1
			} else if i > j {
				want = 1
			}
			if got := Compare(a, b); got != want {
				t.Error(a, b, got)
			}
		}
	}
	other := math.Float64frombits(math.Float64bits(nan) ^ 1<<63 ^ 8)
	if other == other || Compare(nan, other) != 0 || Compare(other, nan) != 0 {
		t.Error("all NaNs are the same")
	}
}

func TestP2_4Best(t *testing.T) {
	for i, c := range []struct {
		l    []float64
		want int
	}{{nil, -1}, {[]float64{}, -1}, {[]float64{0, nan, minus0}, 0}, {[]float64{minus0, 0}, 1}, {[]float64{nan}, 0}, {[]float64{nan, nan}, 0}, {[]float64{nan, -inf}, 1}, {[]float64{1, 3, 2, 3}, 1}, {[]float64{1, inf, inf}, 1}, {[]float64{-2, -1}, 1}} {
		if got := Best(c.l); got != c.want {
			t.Error(i, got)
		}
	}
	for i := range ordered() {
		if got := Best(ordered()[:i+1]); got != i {
			t.Error(i, got)
		}
	}
}

func TestP2_5ShareDoesNotDecrease(t *testing.T) {
	for _, n := range []int{-1, 0, 1, 3, 1000, api.MaxInt, math.MaxInt64} {
		last := 0
		top := min(max(n, 0), api.MaxInt)
		for i, x := range ordered() {
			got := Share(n, x)
			if got < 0 || got > top || (i > 0 && got < last) {
				t.Error(n, x, got, last)
			}
			last = got
		}
	}
}
