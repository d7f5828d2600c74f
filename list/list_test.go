package list

import (
	"slices"
	"strconv"
	"testing"

	"entail/api"
)

func TestFirstError(t *testing.T) {
	for _, c := range []struct {
		errors []api.Errno
		want   api.Errno
	}{
		{nil, api.OK}, {[]api.Errno{api.OK, api.OK}, api.OK}, {[]api.Errno{api.OK, api.ErrForm, api.ErrName}, api.ErrForm},
	} {
		if e := FirstError(c.errors...); e != c.want {
			t.Errorf("FirstError(%v): %d, want %d", c.errors, e, c.want)
		}
	}
}

func TestTransform(t *testing.T) {
	if got := Transform([]int{1, 20}, strconv.Itoa); !slices.Equal(got, []string{"1", "20"}) {
		t.Errorf("Transform: %v", got)
	}
	if got := Transform(nil, strconv.Itoa); len(got) != 0 {
		t.Errorf("Transform of nothing: %v", got)
	}
}
