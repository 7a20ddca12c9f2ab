package referee_test

import (
	"reflect"
	"testing"

	"deuce/api"
)

// P12.2: TestClose: a court that there is gets other hours.
func TestClose(t *testing.T) {
	d := four()
	r := check(t, d, "close 0 1 0 1440: ok", "close 1 0 700 700: ok", "close 2 0 600 700: no", "close 0 2 600 700: no", "close 0 0 701 700: no", "close 0 0 600 1441: no", "close 0 0 1441 1441: no", "close 1 0 1440 1440: ok", "close 1 1 0 0: ok", "close 1 1 1 0: no")
	wanted := beginning(d)
	wanted.Days = [][]api.Span{{span(600, 700), span(0, 1440)}, {span(1440, 1440), span(0, 0)}}
	if !same(r, wanted) {
		t.Errorf("the register is %+v", r)
	}
	if !reflect.DeepEqual(d, four()) {
		t.Errorf("the desk has become %+v", d)
	}
}

// oneCourt returns a desk with one court on two days.
func oneCourt(d api.Desk) api.Desk {
	d.Days = [][]api.Span{{span(600, 700)}, {span(600, 700)}}
	return d
}

// P12.2, P12.10: TestCourts: how many matches there are to play, in how many days, and by which day that cannot be.
func TestCourts(t *testing.T) {
	check(t, oneCourt(four()), "jobs: 3", "need: never", "stuck: 2", "close 0 0 600 780: ok", "need: 1", "stuck: none", "close 0 0 600 779: ok", "need: 2", "stuck: none", "close 0 0 600 600: ok", "need: never", "close 1 0 600 780: ok", "need: 2", "stuck: none",
		"close 1 0 600 700: ok", "need: never", "walk 0 0 1: ok", "jobs: 2", "open 0 1 0: ok", "jobs: 2", "need: never", "retire 1: 3", "jobs: 1", "need: 2", "close 0 0 600 660: ok", "need: 1", "close 0 0 600 659: ok", "need: 2", "walk 1 0 3: ok", "jobs: 0", "need: 0", "stuck: none", "close 1 0 600 600: ok", "need: 0")
	rested := oneCourt(four())
	rested.Rest = 20
	check(t, rested, "close 0 0 600 799: ok", "need: 2", "close 0 0 600 800: ok", "need: 1", "close 0 0 600 719: ok", "close 1 0 600 660: ok", "need: never", "close 0 0 600 720: ok", "need: 2", "close 1 0 600 659: ok", "need: never")
	due := oneCourt(four())
	due.Stages[0].Due, due.Stages[1].Due = 0, 1
	check(t, due, "stuck: 0", "close 0 0 600 720: ok", "stuck: none", "need: 2", "close 1 0 600 659: ok", "stuck: 1", "need: never", "walk 0 0 1: ok", "stuck: none", "need: 1", "close 0 0 600 719: ok", "stuck: 1", "close 0 0 600 659: ok", "stuck: 0")
}

// P12.2: TestManyJobs: with more than six matches nobody can say.
func TestManyJobs(t *testing.T) {
	d := drawn(numbered(3)...)
	d.Days = [][]api.Span{{span(0, 1440)}}
	check(t, d, "jobs: full", "need: full", "stuck: full", "left: 7", "close 0 0 0 0: ok", "need: full", "stuck: full", "walk 0 2 5: ok", "jobs: 6", "need: never", "stuck: 2", "close 0 0 0 1440: ok", "need: 1", "stuck: none", "open 0 0 0: ok", "jobs: 6", "retire 0: 2", "jobs: 5")
	check(t, drawn(numbered(5)...), "jobs: full", "need: full", "stuck: full", "left: 31")
}
