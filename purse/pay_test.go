package purse_test

import (
	"math"
	"slices"
	"testing"

	"deuce/api"
	"deuce/purse"
)

// P10.8: TestPay: what is to be paid now, and what was paid too much, by persons, as far as it is not 0.
func TestPay(t *testing.T) {
	for name, x := range map[string]struct{ before, pay, over []api.Payment }{
		"the example":       {paid(11, 100, 22, 20), paid(11, 93, 12, 150, 21, 30, 41, 100), paid(22, 4)},
		"another order":     {paid(22, 20, 11, 100), paid(11, 93, 12, 150, 21, 30, 41, 100), paid(22, 4)},
		"nothing before":    {nil, paid(11, 193, 12, 150, 21, 30, 22, 16, 41, 100), nil},
		"payments of 0":     {paid(31, 0, 41, 0, 41, 0), paid(11, 193, 12, 150, 21, 30, 22, 16, 41, 100), nil},
		"all before":        {paid(11, 193, 12, 150, 21, 30, 22, 16, 41, 100), nil, nil},
		"one too much each": {paid(41, 101, 31, 1, 22, 17, 21, 31, 12, 151, 11, 194), nil, paid(11, 1, 12, 1, 21, 1, 22, 1, 31, 1, 41, 1)},
		"several for one":   {paid(41, 50, 41, 60, 31, 1), paid(11, 193, 12, 150, 21, 30, 22, 16), paid(31, 1, 41, 10)},
		"equal ones":        {paid(12, 75, 11, 1, 12, 75), paid(11, 192, 21, 30, 22, 16, 41, 100), nil},
		"the most of each":  {paid(41, 1000000000), paid(11, 193, 12, 150, 21, 30, 22, 16), paid(41, 999999900)},
		"the most of all":   {slices.Repeat(paid(31, 1000000000), 200), paid(11, 193, 12, 150, 21, 30, 22, 16, 41, 100), paid(31, 200000000000)},
	} {
		pay, over, e := purse.Pay(example(), x.before)
		if !slices.Equal(pay, x.pay) || !slices.Equal(over, x.over) || e != api.OK {
			t.Errorf("%s: Pay = %v, %v, %d", name, pay, over, e)
		}
	}
	pay, over := payOf(t, largest(), nil)
	if len(pay) != 64 || len(over) != 0 || !slices.Contains(pay, api.Payment{Person: 935, Units: 1225000000000}) {
		t.Errorf("Pay = %v, %v", pay, over)
	}
}

// P1, P10.8: TestPaid: there are at most 200 payments, each of a person in a team, with units that there can be.
func TestPaid(t *testing.T) {
	for name, before := range map[string][]api.Payment{
		"201 of nothing":      slices.Repeat(paid(11, 0), 201),
		"a stranger":          paid(13, 1),
		"a stranger, nothing": paid(11, 1, 13, 0),
		"a player":            paid(1, 1),
		"no person":           paid(-1, 0),
		"a person above":      paid(1000, 0),
		"less than nothing":   paid(11, -1),
		"more than can be":    paid(11, 1000000001),
		"the least":           paid(11, math.MinInt),
		"the greatest":        paid(11, math.MaxInt),
		"both":                paid(11, math.MaxInt, 11, math.MinInt),
		"all the greatest":    paid(math.MaxInt, math.MaxInt),
		"the last one":        append(slices.Repeat(paid(11, 1), 199), paid(12, -1)...),
	} {
		pay, over, e := purse.Pay(example(), before)
		if len(pay) != 0 || len(over) != 0 || e != api.ErrPaid {
			t.Errorf("%s: Pay = %v, %v, %d", name, pay, over, e)
		}
	}
}

// P10.7: TestMerge: more slips behind its own ones, and all items, each once, ordered by Id; the rest of the purse as it is.
func TestMerge(t *testing.T) {
	own := example().Items
	for name, x := range map[string]struct {
		slips       []api.Slip
		has, more   []api.Item
		wantedSlips []api.Slip
		wanted      []api.Item
	}{
		"nothing more":     {nil, own, nil, []api.Slip{won(0, 0, 1)}, own},
		"nothing at all":   {nil, nil, nil, []api.Slip{won(0, 0, 1)}, nil},
		"nothing before":   {nil, nil, own, []api.Slip{won(0, 0, 1)}, own},
		"the same ones":    {[]api.Slip{won(0, 0, 1)}, own, own, []api.Slip{won(0, 0, 1), won(0, 0, 1)}, own},
		"another order":    {nil, []api.Item{own[2]}, []api.Item{own[1], own[0]}, []api.Slip{won(0, 0, 1)}, own},
		"not in order":     {nil, []api.Item{own[2], own[0], own[2], own[1]}, nil, []api.Slip{won(0, 0, 1)}, own},
		"more of both":     {[]api.Slip{won(1, 0, 1), won(0, 1, 4)}, own, []api.Item{stay(0, 41, 1), own[2], own[1]}, []api.Slip{won(0, 0, 1), won(1, 0, 1), won(0, 1, 4)}, append([]api.Item{stay(0, 41, 1)}, own...)},
		"slips given back": {[]api.Slip{won(0, 1, 4), won(0, 0, 1), won(0, 1, 4)}, own, []api.Item{fine(99, 41, 5)}, []api.Slip{won(0, 0, 1), won(0, 1, 4), won(0, 0, 1), won(0, 1, 4)}, append(slices.Clone(own), fine(99, 41, 5))},
		"37 equal ones":    {nil, own, slices.Repeat(own[:1], 37), []api.Slip{won(0, 0, 1)}, own},
	} {
		p := with(func(p *api.Purse) { p.Items = x.has })
		wanted := with(func(p *api.Purse) { p.Slips, p.Items = x.wantedSlips, x.wanted })
		if m, e := purse.Merge(p, x.slips, x.more); !same(m, wanted) || e != api.OK {
			t.Errorf("%s: Merge = %+v, %d", name, m, e)
		}
	}
}

// P1, P10.7: TestMergeErrors: first those of the purse, then those of the purse with all of it.
func TestMergeErrors(t *testing.T) {
	own := example().Items
	stranger := []api.Slip{lucky(3, 9, 4)}
	for name, x := range map[string]struct {
		slips []api.Slip
		items []api.Item
		e     api.Errno
	}{
		"as many slips as can be":  {slices.Repeat([]api.Slip{won(0, 0, 1)}, 59), nil, api.OK},
		"one more":                 {slices.Repeat([]api.Slip{won(0, 0, 1)}, 60), []api.Item{{}}, api.ErrSlip},
		"a slip, and an item":      {[]api.Slip{{}}, []api.Item{{}}, api.ErrSlip},
		"clash with its own":       {[]api.Slip{won(0, 0, 2)}, []api.Item{{}}, api.ErrClash},
		"clash with each other":    {[]api.Slip{won(1, 0, 4), won(1, 0, 3)}, []api.Item{{}}, api.ErrClash},
		"a lucky loser, no team":   {stranger, []api.Item{{}}, api.ErrTeam},
		"an item":                  {nil, []api.Item{{}}, api.ErrItem},
		"an item of a stranger":    {nil, []api.Item{fine(50, 13, 1)}, api.ErrItem},
		"clash with its own items": {nil, []api.Item{fine(1, 21, 31)}, api.ErrItem},
		"items clash":              {nil, []api.Item{fine(4, 21, 31), stay(4, 21, 1)}, api.ErrItem},
		"as many items as can be":  {nil, fines(37), api.OK},
		"41 items":                 {nil, fines(38), api.ErrItem},
		"41 items, some equal":     {nil, slices.Repeat(own[:1], 38), api.ErrItem},
		"many items":               {nil, slices.Repeat(own[:1], 10000), api.ErrItem},
		"41 items, good slips":     {[]api.Slip{won(0, 1, 4)}, slices.Repeat(own[:1], 38), api.ErrItem},
	} {
		m, e := purse.Merge(example(), x.slips, x.items)
		if e != x.e || e != api.OK && !same(m, api.Purse{}) {
			t.Errorf("%s: Merge = %+v, %d", name, m, e)
		}
	}
	poor := with(func(p *api.Purse) { p.Daily = -1 })
	if m, e := purse.Merge(poor, []api.Slip{{}}, nil); e != api.ErrPurse || !same(m, api.Purse{}) {
		t.Errorf("Merge of a purse that is not valid = %+v, %d", m, e)
	}
	// What is missing for the purse itself does not come with more slips.
	won := with(func(p *api.Purse) { p.Slips = append(p.Slips, won(1, 0, 9)) })
	if _, e := purse.Merge(won, stranger, nil); e != api.ErrClash {
		t.Errorf("Merge of a purse that clashes: %d", e)
	}
}
