package guard_test

import (
	"testing"

	"zermelo/api"
	"zermelo/guard"
)

func TestAttempt(t *testing.T) {
	var none []int
	for _, c := range []struct {
		name string
		work func()
		want api.Errno
	}{
		{"nothing", func() {}, api.OK},
		{"what holds", func() { guard.Demand(true, api.ErrForm) }, api.OK},
		{"what does not hold", func() { guard.Demand(false, api.ErrForm) }, api.ErrForm},
		{"a result", func() { guard.Must(5, api.OK) }, api.OK},
		{"an error", func() { guard.Must(0, api.ErrLimit) }, api.ErrLimit},
		{"an index", func() { none[len(none)]++ }, api.ErrArg},
		{"an attempt within", func() { guard.Attempt(func() { panic(api.ErrLimit) }) }, api.OK},
	} {
		ended := true
		e := guard.Attempt(func() {
			c.work()
			ended = false
		})
		if e != c.want || ended != (e != api.OK) {
			t.Errorf("%s: error %d, want %d; ended early: %v", c.name, e, c.want, ended)
		}
	}
	if n := guard.Must("result", api.OK); n != "result" {
		t.Errorf("Must returns %q", n)
	}
}
