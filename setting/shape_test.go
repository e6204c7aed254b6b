package setting_test

import (
	"slices"
	"testing"

	"reservoir/api"
	"reservoir/frame"
	"reservoir/setting"
	"reservoir/shape"
)

func TestP11_5ShapeReadsWhatPutWrote(t *testing.T) {
	l := []api.Setting{{Id: 0, Value: 0}, {Id: 65535, Value: 1<<32 - 1}, {Id: 4, Value: api.MaxWindow}, {Id: 5, Value: api.MaxFrame}, {Id: 258, Value: 16909060}}
	f := api.Frame{Type: api.TSettings, Payload: setting.Put(l)}
	if p, bad := shape.Of(f); !slices.Equal(p.Settings, l) || bad != (api.Bad{}) || !frame.Right(f) {
		t.Error(p, bad)
	}
}
