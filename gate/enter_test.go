package gate_test

import (
	"math/rand/v2"
	"slices"
	"testing"

	"deuce/api"
	"deuce/gate"
)

// P11.2: TestEnter: when groups are in: the example, and each step of a minute at its edges.
func TestEnter(t *testing.T) {
	groups := func(l ...api.Party) func(q *api.Queue) {
		return func(q *api.Queue) {
			*q = api.Queue{Rate: span(1, 100), Seats: 9, Groups: l}
		}
	}
	seats := func(seats int, frees []api.Free, l ...api.Party) func(q *api.Queue) {
		return func(q *api.Queue) {
			*q = api.Queue{Rate: span(1, 100), Seats: seats, Groups: l, Frees: frees}
		}
	}
	opens := func(open int, l ...api.Party) func(q *api.Queue) {
		return func(q *api.Queue) {
			*q = api.Queue{Open: open, Rate: span(1, 100), Seats: 99, Groups: l}
		}
	}
	for name, x := range map[string]struct {
		change func(q *api.Queue)
		rate   int
		want   []int
	}{
		"the example at 2":           {func(q *api.Queue) {}, 2, []int{10, -1, 12, 13}},
		"the example at 3":           {func(q *api.Queue) {}, 3, []int{10, -1, 12, 12}},
		"no groups":                  {groups(), 1, nil},
		"at the first minute":        {groups(party(0, 0, 1, -1)), 1, []int{0}},
		"at the last minute":         {groups(party(0, 1440, 1, -1)), 1, []int{1440}},
		"a group of many":            {groups(party(0, 5, 7, -1)), 2, []int{8}},
		"just so many":               {groups(party(0, 5, 8, -1)), 2, []int{8}},
		"one more":                   {groups(party(0, 5, 9, -1)), 2, []int{9}},
		"by At":                      {groups(party(1, 6, 1, -1), party(2, 5, 2, -1)), 1, []int{7, 6}},
		"by Id":                      {groups(party(3, 5, 1, -1), party(1, 5, 1, -1), party(2, 5, 1, -1)), 1, []int{7, 5, 6}},
		"two in a minute":            {groups(party(1, 5, 2, -1), party(2, 5, 2, -1), party(3, 5, 2, -1)), 4, []int{5, 5, 6}},
		"a group in two minutes":     {groups(party(1, 5, 2, -1), party(2, 5, 2, -1), party(3, 5, 2, -1)), 3, []int{5, 6, 6}},
		"what is left is lost":       {groups(party(1, 5, 1, -1), party(2, 6, 4, -1)), 3, []int{5, 7}},
		"a pause":                    {groups(party(1, 5, 4, -1), party(2, 9, 3, -1)), 3, []int{6, 9}},
		"comes while others pass":    {groups(party(1, 5, 4, -1), party(2, 6, 2, -1)), 3, []int{6, 6}},
		"opens before":               {opens(4, party(1, 5, 1, -1)), 1, []int{5}},
		"opens then":                 {opens(5, party(1, 5, 1, -1)), 1, []int{5}},
		"opens behind":               {opens(6, party(1, 5, 1, -1)), 1, []int{6}},
		"opens for many":             {opens(6, party(2, 1, 2, -1), party(1, 2, 1, -1), party(3, 0, 1, -1)), 2, []int{7, 7, 6}},
		"opens at the end":           {opens(1440, party(1, 0, 2, -1), party(2, 0, 2, -1)), 3, []int{1440, -1}},
		"gives up before it opens":   {opens(6, party(1, 5, 1, 6), party(2, 5, 1, -1)), 1, []int{-1, 6}},
		"is in before giving up":     {opens(6, party(1, 5, 1, 7), party(2, 5, 1, -1)), 1, []int{6, 7}},
		"gives up at once":           {groups(party(1, 5, 1, 5), party(2, 5, 1, -1)), 9, []int{-1, 5}},
		"gives up at once, at last":  {groups(party(1, 1440, 1, 1440), party(2, 1440, 1, -1)), 9, []int{-1, 1440}},
		"waits for one minute":       {groups(party(1, 5, 1, 6)), 1, []int{5}},
		"nobody can pass any more":   {groups(party(1, 5, 2, -1), party(2, 5, 1, 6)), 2, []int{5, -1}},
		"one can still pass":         {groups(party(1, 5, 2, -1), party(2, 5, 1, 6)), 3, []int{5, 5}},
		"one can pass a minute more": {groups(party(1, 5, 2, -1), party(2, 5, 1, 7)), 2, []int{5, 6}},
		"does not give up passing":   {groups(party(1, 5, 4, 6), party(2, 5, 1, 9), party(3, 5, 1, 10)), 1, []int{8, -1, 9}},
		"begins in a minute's rest":  {groups(party(1, 5, 2, -1), party(2, 5, 5, 6)), 3, []int{5, 7}},
		"some behind give up":        {groups(party(1, 5, 3, -1), party(2, 5, 1, 7), party(3, 5, 1, -1), party(4, 6, 1, 8), party(5, 6, 1, 10)), 1, []int{7, -1, 8, -1, 9}},
		"all seats":                  {seats(4, nil, party(1, 5, 4, -1)), 9, []int{5}},
		"a seat too few":             {seats(3, nil, party(1, 5, 4, -1)), 9, []int{-1}},
		"seats are taken":            {seats(4, nil, party(1, 5, 2, -1), party(2, 5, 2, -1), party(3, 5, 1, -1)), 9, []int{5, 5, -1}},
		"seats taken passing":        {seats(4, nil, party(1, 5, 3, -1), party(2, 5, 2, 6), party(3, 6, 1, -1)), 1, []int{7, -1, 8}},
		"seats at the first minute":  {seats(0, []api.Free{free(0, 2)}, party(1, 0, 2, -1)), 9, []int{0}},
		"seats before":               {seats(0, []api.Free{free(4, 2)}, party(1, 5, 2, -1)), 9, []int{5}},
		"seats then":                 {seats(0, []api.Free{free(5, 2)}, party(1, 5, 2, -1)), 9, []int{5}},
		"seats behind":               {seats(0, []api.Free{free(6, 2)}, party(1, 5, 2, -1)), 9, []int{6}},
		"seats at the last minute":   {seats(0, []api.Free{free(1440, 2)}, party(1, 5, 2, -1)), 9, []int{1440}},
		"seats together":             {seats(1, []api.Free{free(9, 1), free(7, 1), free(9, 1), free(8, 0)}, party(1, 5, 4, -1), party(2, 5, 2, -1)), 9, []int{9, -1}},
		"no seats":                   {seats(1, []api.Free{free(7, 0)}, party(1, 5, 2, -1)), 9, []int{-1}},
		"all behind wait":            {seats(2, []api.Free{free(8, 1)}, party(1, 5, 3, -1), party(2, 5, 1, -1), party(3, 6, 1, -1)), 9, []int{8, -1, -1}},
		"until one gives up":         {seats(2, nil, party(1, 5, 3, 8), party(2, 5, 1, -1), party(3, 6, 1, 8)), 1, []int{-1, 8, -1}},
		"and one more":               {seats(2, nil, party(1, 5, 3, 8), party(2, 5, 4, 7), party(3, 6, 4, 9), party(4, 6, 2, -1)), 1, []int{-1, -1, -1, 10}},
		"gives up as seats come":     {seats(2, []api.Free{free(8, 9)}, party(1, 5, 3, 8), party(2, 5, 2, -1)), 9, []int{-1, 8}},
		"seats come before":          {seats(2, []api.Free{free(7, 9)}, party(1, 5, 3, 8), party(2, 5, 2, -1)), 9, []int{7, 7}},
		"nobody else in the minute":  {seats(3, []api.Free{free(6, 1)}, party(1, 5, 2, -1), party(2, 5, 2, -1), party(3, 5, 1, 6)), 4, []int{5, 6, -1}},
		"the whole rate then":        {seats(3, []api.Free{free(6, 9)}, party(1, 5, 1, -1), party(2, 5, 4, -1)), 4, []int{5, 6}},
		"the rest of the rate":       {seats(5, []api.Free{free(6, 9)}, party(1, 5, 1, -1), party(2, 5, 4, -1)), 4, []int{5, 6}},
		"seats come while some pass": {seats(3, []api.Free{free(6, 2)}, party(1, 5, 3, -1), party(2, 5, 2, -1)), 2, []int{6, 7}},
		"midnight":                   {groups(party(1, 1439, 3, -1), party(2, 1439, 2, -1), party(3, 1439, 1, -1)), 2, []int{1440, -1, -1}},
		"midnight, in time":          {groups(party(1, 1439, 2, -1), party(2, 1439, 2, -1), party(3, 1439, 1, -1)), 2, []int{1439, 1440, -1}},
	} {
		q := with(x.change)
		if l, e := gate.Enter(q, x.rate); e != api.OK || !slices.Equal(l, x.want) {
			t.Errorf("%s: Enter = %v, %d", name, l, e)
		}
		if l := enterBy(q, x.rate); len(x.want) != len(l) || !slices.Equal(l, x.want) {
			t.Errorf("%s: by the chapter's words it is %v", name, l)
		}
	}
}

// P11.2: TestLargest: the greatest numbers, at the least and the greatest rate.
func TestLargest(t *testing.T) {
	slow, fast := enterOf(t, largest(), 1), enterOf(t, largest(), 100)
	for group := range api.MaxGroups {
		// The last one has the lowest Id.
		before := api.MaxGroups - 1 - group
		if slow[group] != 20*before+19 || fast[group] != before/5 {
			t.Errorf("the group %d is in at %d and %d", group, slow[group], fast[group])
		}
	}
	q := largest()
	q.Seats, q.Open = 0, api.MaxMinute
	for _, l := range [][]int{enterOf(t, q, 1), enterOf(t, q, 100)} {
		if slices.Max(l) != -1 {
			t.Errorf("Enter = %v behind giving up", l)
		}
	}
	for i := range q.Groups {
		q.Groups[i].Quits = -1
	}
	if l := enterOf(t, q, 100); slices.Max(l) != 1440 || inUpTo(q, l, 1440) != 100 {
		t.Errorf("Enter = %v in the last minute", l)
	}
}

// P11.2: TestEnterByWords: random queues, at all rates, by the chapter's words.
func TestEnterByWords(t *testing.T) {
	in, not := 0, 0
	check := func(t *testing.T, r *rand.Rand, q api.Queue) {
		for i, wanted := range allBy(q) {
			if l := enterOf(t, q, q.Rate.Low+i); !slices.Equal(l, wanted) {
				t.Errorf("Enter at %d = %v instead of %v", q.Rate.Low+i, l, wanted)
			}
			for _, minute := range wanted {
				if minute == -1 {
					not++
				} else {
					in++
				}
			}
		}
	}
	eachQueue(t, 1500, 8, check)
	eachQueue(t, 150, api.MaxGroups, check)
	if in < 5000 || not < 5000 {
		t.Errorf("only %d are in, %d are not", in, not)
	}
}
