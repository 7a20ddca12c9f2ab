package rank_test

import (
	"math/rand/v2"
	"slices"
	"testing"

	"deuce/api"
	"deuce/rank"
)

// P4.2: TestMerge: all reports, each once, ordered by Id; the rest of the ledger as it is.
func TestMerge(t *testing.T) {
	all := example().Reports
	for name, x := range map[string]struct{ has, more []api.Report }{
		"nothing more":          {all, nil},
		"nothing before":        {nil, all},
		"the same ones":         {all, all},
		"another order":         {[]api.Report{all[4], all[1]}, []api.Report{all[5], all[0], all[3], all[2]}},
		"some of them in both":  {[]api.Report{all[5], all[4], all[3], all[4]}, []api.Report{all[0], all[3], all[1], all[2], all[0]}},
		"equal ones many times": {slices.Repeat(all, 6), slices.Repeat(all, 6)},
	} {
		l := with(func(l *api.Ledger) { l.Reports = x.has })
		if m, e := rank.Merge(l, x.more); !same(m, example()) || e != api.OK {
			t.Errorf("%s: Merge = %v, %d", name, m, e)
		}
	}
}

// P4.2: TestMergeErrors: limits and clashes, of each part and of all of it, in their order.
func TestMergeErrors(t *testing.T) {
	other := example().Reports[1]
	other.Points = 5
	late := []api.Report{{Id: 90}, {Id: 90, Must: true}}
	for name, x := range map[string]struct {
		more []api.Report
		e    api.Errno
	}{
		"as many as there can be":         {reports(20, 34), api.OK},
		"one more than that":              {reports(20, 35), api.ErrLedger},
		"40 of which some are there":      {append(reports(20, 34), example().Reports...), api.OK},
		"too many of them":                {slices.Repeat(example().Reports, 7), api.ErrLedger},
		"too many equal ones":             {slices.Repeat(late[:1], 41), api.ErrLedger},
		"many equal ones":                 {slices.Repeat(late[:1], 40), api.OK},
		"one that is not valid":           {[]api.Report{{Id: 20, Player: 3}}, api.ErrLedger},
		"one that clashes with L":         {[]api.Report{other}, api.ErrReport},
		"clash with each other":           {late, api.ErrReport},
		"not valid, and clash with L":     {[]api.Report{other, {Id: 100}}, api.ErrLedger},
		"not valid, and clash":            {append(slices.Clone(late), api.Report{Week: -1}), api.ErrLedger},
		"too many, and clash with L":      {append(reports(20, 34), other), api.ErrLedger},
		"too many, and clash":             {append(reports(20, 34), late...), api.ErrReport},
		"just not too many, and clash":    {append(reports(20, 33), other), api.ErrReport},
		"one of L and one that clashes":   {[]api.Report{example().Reports[1], other}, api.ErrReport},
		"too many, and a clash of itself": {append(reports(20, 38), late...), api.ErrReport},
	} {
		m, e := rank.Merge(example(), x.more)
		if e != x.e || e != api.OK && !same(m, api.Ledger{}) {
			t.Errorf("%s: Merge = %v, %d", name, m, e)
		}
	}
}

// P4.2, P4.12: TestMergeLate: whichever reports come late, the ledger is the same, and all results are.
func TestMergeLate(t *testing.T) {
	eachLedger(t, 400, func(t *testing.T, r *rand.Rand, l api.Ledger, week int) {
		whole, e := rank.Merge(l, nil)
		if e != api.OK {
			t.Fatalf("Merge: %d", e)
		}
		for _, x := range l.Reports {
			if !slices.Contains(whole.Reports, x) {
				t.Errorf("%v is missing", x)
			}
		}
		for i, x := range whole.Reports {
			if !slices.Contains(l.Reports, x) || i > 0 && whole.Reports[i-1].Id >= x.Id {
				t.Errorf("the reports are %v", whole.Reports)
			}
		}
		cut := r.IntN(len(l.Reports) + 1)
		early := copied(l)
		early.Reports = early.Reports[:cut]
		m, e := rank.Merge(early, l.Reports[cut:])
		if !same(m, whole) || e != api.OK {
			t.Errorf("Merge = %v, %d instead of %v", m, e, whole)
		}
		early.Reports = slices.Clone(l.Reports[cut:])
		m, e = rank.Merge(early, l.Reports)
		if !same(m, whole) || e != api.OK {
			t.Errorf("Merge of all = %v, %d instead of %v", m, e, whole)
		}
		if a, b := listOf(t, l, week), listOf(t, whole, week); !slices.Equal(a, b) {
			t.Errorf("the list is %v, and %v when merged", a, b)
		}
	})
}
