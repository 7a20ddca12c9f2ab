package gate_test

import (
	"math"
	"math/rand/v2"
	"slices"
	"testing"

	"deuce/api"
	"deuce/gate"
)

// refundOf returns what is paid back for valid tickets, and for all of them.
func refundOf(t *testing.T, x api.Terms, l []api.Ticket) ([]int, int) {
	t.Helper()
	a, e := gate.Refund(x, l)
	n, f := gate.Total(x, l)
	if e != api.OK || f != api.OK || len(a) != len(l) {
		t.Fatalf("Refund = %v, %d; Total = %d, %d", a, e, n, f)
	}
	return a, n
}

// refundsOf returns what is paid back for valid tickets.
func refundsOf(t *testing.T, x api.Terms, l []api.Ticket) []int {
	t.Helper()
	a, _ := refundOf(t, x, l)
	return a
}

// P11.6, P11.7: TestRefund: all, half, or nothing, less what was paid.
func TestRefund(t *testing.T) {
	days := func(minutes ...int) api.Terms { return api.Terms{Short: 60, Long: 120, Played: minutes} }
	always := func(minutes int) api.Terms {
		return api.Terms{Short: minutes, Long: minutes, Played: []int{0, minutes, 1440}}
	}
	many := make([]api.Ticket, api.MaxGroups)
	for i := range many {
		many[i] = ticket(api.MaxPlayer-i, api.MaxPrice, 29, 0)
	}
	for name, x := range map[string]struct {
		x     api.Terms
		l     []api.Ticket
		want  []int
		total int
	}{
		"the example":     {terms(), tickets(), []int{1001, 500, 0, 0}, 1501},
		"all":             {days(0, 59), []api.Ticket{ticket(1, 77, 0, 0), ticket(2, 78, 1, 0)}, []int{77, 78}, 155},
		"half":            {days(60, 119), []api.Ticket{ticket(1, 77, 0, 0), ticket(2, 78, 1, 0)}, []int{38, 39}, 77},
		"nothing":         {days(120, 1440), []api.Ticket{ticket(1, 77, 0, 0), ticket(2, 78, 1, 0)}, []int{0, 0}, 0},
		"half of a cent":  {days(60), []api.Ticket{ticket(1, 1, 0, 0), ticket(0, 0, 0, 0), ticket(2, 2, 0, 0)}, []int{0, 0, 1}, 1},
		"all but some":    {days(0), []api.Ticket{ticket(1, 77, 0, 1), ticket(2, 77, 0, 76), ticket(3, 77, 0, 77)}, []int{76, 1, 0}, 77},
		"half but some":   {days(60), []api.Ticket{ticket(1, 77, 0, 1), ticket(2, 77, 0, 37), ticket(3, 77, 0, 38), ticket(4, 77, 0, 39), ticket(5, 77, 0, 77)}, []int{37, 1, 0, 0, 0}, 38},
		"nothing, paid":   {days(120), []api.Ticket{ticket(1, 77, 0, 1), ticket(2, 77, 0, 77)}, []int{0, 0}, 0},
		"several of days": {days(0, 60, 120), []api.Ticket{ticket(9, 10, 2, 0), ticket(8, 10, 1, 0), ticket(7, 10, 0, 0), ticket(6, 10, 1, 4)}, []int{0, 5, 10, 1}, 16},
		"no half":         {always(60), []api.Ticket{ticket(1, 10, 0, 0), ticket(2, 10, 1, 0), ticket(3, 10, 2, 0)}, []int{10, 0, 0}, 10},
		"never":           {always(0), []api.Ticket{ticket(1, 10, 0, 0), ticket(2, 10, 1, 0), ticket(3, 10, 2, 0)}, []int{0, 0, 0}, 0},
		"all but midday":  {always(1440), []api.Ticket{ticket(1, 10, 0, 0), ticket(2, 10, 2, 0)}, []int{10, 0}, 10},
		"half always":     {api.Terms{Long: 1440, Played: []int{0, 1439, 1440}}, []api.Ticket{ticket(1, 10, 0, 0), ticket(2, 10, 1, 0), ticket(3, 10, 2, 0)}, []int{5, 5, 0}, 10},
		"the most":        {api.Terms{Short: 1, Long: 1, Played: make([]int, 30)}, many, slices.Repeat([]int{1000000}, 40), 40000000},
	} {
		if a, n := refundOf(t, x.x, x.l); !slices.Equal(a, x.want) || n != x.total {
			t.Errorf("%s: Refund = %v, Total = %d", name, a, n)
		}
	}
}

// sale is terms and tickets.
type sale struct {
	x api.Terms
	l []api.Ticket
}

// soldWith returns the terms and tickets of the example with something changed.
func soldWith(change func(s *sale)) sale {
	s := sale{terms(), tickets()}
	change(&s)
	return s
}

// refused checks that there is no refund, and no total.
func refused(t *testing.T, name string, s sale) {
	t.Helper()
	if a, e := gate.Refund(s.x, s.l); len(a) != 0 || e != api.ErrTicket {
		t.Errorf("%s: Refund = %v, %d", name, a, e)
	}
	if n, e := gate.Total(s.x, s.l); n != 0 || e != api.ErrTicket {
		t.Errorf("%s: Total = %d, %d", name, n, e)
	}
}

// P1, P11.6, P11.7: TestTicketNumbers: each number of terms and tickets has its bounds.
func TestTicketNumbers(t *testing.T) {
	for name, x := range map[string]bound[sale]{
		"Short":        {0, 120, func(s *sale, n int) { s.x.Short = n }},
		"Long":         {60, 1440, func(s *sale, n int) { s.x.Long = n }},
		"both":         {0, 1440, func(s *sale, n int) { s.x.Short, s.x.Long = n, n }},
		"Played":       {0, 1440, func(s *sale, n int) { s.x.Played[0] = n }},
		"last Played":  {0, 1440, func(s *sale, n int) { s.x.Played[2] = n }},
		"other Played": {0, 1440, func(s *sale, n int) { s.x.Played = append(s.x.Played, n) }},
		"low Id":       {0, 1, func(s *sale, n int) { s.l[0].Id = n }},
		"Id":           {4, 999, func(s *sale, n int) { s.l[3].Id = n }},
		"Price":        {0, 1000000, func(s *sale, n int) { s.l[0].Price = n }},
		"Price, paid":  {600, 1000000, func(s *sale, n int) { s.l[2].Price = n }},
		"Day":          {0, 2, func(s *sale, n int) { s.l[0].Day = n }},
		"last Day":     {0, 2, func(s *sale, n int) { s.l[3].Day = n }},
		"Paid":         {0, 1001, func(s *sale, n int) { s.l[0].Paid = n }},
		"last Paid":    {0, 1001, func(s *sale, n int) { s.l[3].Paid = n }},
	} {
		for _, n := range []int{x.low, x.high} {
			s := soldWith(func(s *sale) { x.set(s, n) })
			refundOf(t, s.x, s.l)
		}
		for _, n := range x.beyond() {
			refused(t, name, soldWith(func(s *sale) { x.set(s, n) }))
		}
	}
}

// P1, P11.6, P11.7: TestInvalidTickets: terms and tickets of which just one thing is not valid, other than a number.
func TestInvalidTickets(t *testing.T) {
	for name, change := range map[string]func(s *sale){
		"an Id twice":         func(s *sale) { s.l[3].Id = 1 },
		"an Id 0 twice":       func(s *sale) { s.l[0].Id, s.l[2].Id = 0, 0 },
		"a ticket twice":      func(s *sale) { s.l = append(s.l, s.l[0]) },
		"31 days":             func(s *sale) { s.x.Played = append(s.x.Played, make([]int, 28)...) },
		"31 days, no tickets": func(s *sale) { s.x.Played, s.l = make([]int, 31), nil },
		"no tickets":          func(s *sale) { s.x.Short, s.l = 121, nil },
		"no days":             func(s *sale) { s.x.Played = nil },
		"a day too few":       func(s *sale) { s.x.Played = s.x.Played[:2] },
		"41 tickets":          func(s *sale) { s.l = manyTickets(41) },
		"41 equal tickets":    func(s *sale) { s.l = make([]api.Ticket, 41) },
	} {
		refused(t, name, soldWith(change))
	}
	for name, change := range map[string]func(s *sale){
		"30 days":          func(s *sale) { s.x.Played = append(s.x.Played, make([]int, 27)...) },
		"40 tickets":       func(s *sale) { s.l = manyTickets(40) },
		"no tickets":       func(s *sale) { s.l = nil },
		"neither":          func(s *sale) { s.x.Played, s.l = nil, nil },
		"equal but for Id": func(s *sale) { s.l = append(s.l, ticket(0, 1001, 0, 0)) },
	} {
		s := soldWith(change)
		if a, n := refundOf(t, s.x, s.l); len(a) == 0 && n != 0 {
			t.Errorf("%s: Refund = %v, Total = %d", name, a, n)
		}
	}
}

// manyTickets returns so many different tickets.
func manyTickets(n int) []api.Ticket {
	var out []api.Ticket
	for id := range n {
		out = append(out, ticket(id, id, 0, 0))
	}
	return out
}

// refundBy returns what is paid back for a ticket by the chapter's words, cent by cent.
func refundBy(x api.Terms, k api.Ticket) int {
	cents := 0
	for paid := k.Paid + 1; paid <= k.Price; paid++ {
		all := x.Played[k.Day] < x.Short
		half := x.Played[k.Day] < x.Long && 2*paid <= k.Price
		if all || half {
			cents++
		}
	}
	return cents
}

// randomSale returns random terms and tickets, with few different minutes.
func randomSale(r *rand.Rand) sale {
	first, width := r.IntN(1400), 1+r.IntN(40)
	minute := func() int { return first + r.IntN(width) }
	short := minute()
	s := sale{x: api.Terms{Short: short, Long: max(short, minute())}}
	for range 1 + r.IntN(api.MaxPlayed) {
		s.x.Played = append(s.x.Played, minute())
	}
	for _, id := range r.Perm(api.MaxPlayer + 1)[:r.IntN(api.MaxGroups+1)] {
		price := r.IntN(1 + r.IntN(300))
		s.l = append(s.l, ticket(id, price, r.IntN(len(s.x.Played)), max(0, r.IntN(2*price+1)-price)))
	}
	return s
}

// eachSale calls a function with random terms and tickets.
func eachSale(t *testing.T, times uint64, do func(t *testing.T, r *rand.Rand, s sale)) {
	t.Helper()
	for seed := range times {
		r := random(seed)
		s := randomSale(r)
		do(t, r, s)
		if t.Failed() {
			t.Fatalf("seed %d: %+v", seed, s)
		}
	}
}

// P11.6, P11.7: TestRefundByWords: random tickets, cent by cent.
func TestRefundByWords(t *testing.T) {
	paid := 0
	eachSale(t, 500, func(t *testing.T, r *rand.Rand, s sale) {
		sum := 0
		a, n := refundOf(t, s.x, s.l)
		for i, k := range s.l {
			cents := refundBy(s.x, k)
			if a[i] != cents {
				t.Errorf("Refund of %v = %d instead of %d", k, a[i], cents)
			}
			sum += cents
			count(&paid, cents > 0)
		}
		if n != sum {
			t.Errorf("Total = %d instead of %d", n, sum)
		}
	})
	if paid < 1000 {
		t.Errorf("only %d are paid", paid)
	}
}

// P11.13: TestPaidOnce: when a refund is paid nothing is paid again, no ticket gets back more than its price, and with fewer minutes nobody gets less.
func TestPaidOnce(t *testing.T) {
	more := 0
	eachSale(t, 500, func(t *testing.T, r *rand.Rand, s sale) {
		a := refundsOf(t, s.x, s.l)
		fewer := s.x
		fewer.Played = slices.Clone(s.x.Played)
		for day := range fewer.Played {
			fewer.Played[day] = max(0, fewer.Played[day]-r.IntN(40))
		}
		b := refundsOf(t, fewer, s.l)
		paid := slices.Clone(s.l)
		for i, cents := range a {
			if b[i] < cents {
				t.Errorf("%v is paid %d with fewer minutes, %d with more", s.l[i], b[i], cents)
			}
			count(&more, b[i] > cents)
			if paid[i].Paid += cents; cents < 0 || paid[i].Paid > paid[i].Price {
				t.Errorf("%v is paid %d", s.l[i], cents)
			}
		}
		if again, n := refundOf(t, s.x, paid); n != 0 || slices.ContainsFunc(again, func(cents int) bool { return cents != 0 }) {
			t.Errorf("%v are paid again, %d in all", again, n)
		}
		// What more is due with fewer minutes comes to the same, whether something was paid before or not.
		for i, cents := range refundsOf(t, fewer, paid) {
			if a[i]+cents != b[i] {
				t.Errorf("%v is paid %d and %d, but %d at once", s.l[i], a[i], cents, b[i])
			}
		}
	})
	if more < 500 {
		t.Errorf("only %d are paid more", more)
	}
}

// P11.6: TestLargePrices: refunds of the greatest prices, and of paid amounts next to what is due.
func TestLargePrices(t *testing.T) {
	x := api.Terms{Short: 1, Long: 1440, Played: []int{0, 1}}
	for _, k := range []struct{ price, day, paid, want int }{
		{1000000, 0, 0, 1000000}, {1000000, 0, 999999, 1}, {1000000, 0, 1000000, 0},
		{999999, 1, 0, 499999}, {999999, 1, 499998, 1}, {999999, 1, 499999, 0}, {999999, 1, 500000, 0}, {999999, 1, 999999, 0},
	} {
		if a := refundsOf(t, x, []api.Ticket{ticket(0, k.price, k.day, k.paid)}); a[0] != k.want {
			t.Errorf("Refund of %v = %d", k, a[0])
		}
	}
	for _, price := range []int{math.MinInt, math.MaxInt} {
		refused(t, "a great price", sale{x, []api.Ticket{ticket(0, price, 0, 0)}})
		refused(t, "a great price, paid", sale{x, []api.Ticket{ticket(0, price, 0, price)}})
	}
}
