package entry_test

import (
	"math/rand/v2"
	"slices"
	"testing"

	"deuce/api"
	"deuce/entry"
)

// P5.2: TestExampleList: the chapter's examples, hour by hour.
func TestExampleList(t *testing.T) {
	for _, x := range []struct {
		from, to int
		want     api.Entries
	}{
		{0, 0, api.Entries{Open: 3}},
		{1, 1, api.Entries{Main: []int{7}, Open: 2}},
		{2, 2, api.Entries{Main: []int{8, 7}, Open: 1}},
		{3, 3, api.Entries{Main: []int{9, 8, 7}}},
		{4, 4, api.Entries{Main: []int{9, 8, 7}, Out: []int{6}}},
		{5, 5, api.Entries{Main: []int{9, 8, 7}, Out: []int{6, 5}}},
		{6, 11, api.Entries{Main: []int{9, 8, 7}, Out: []int{6, 5, 4}}},
		{12, 14, api.Entries{Main: []int{9, 8, 5}, Wilds: []int{7}, Out: []int{6, 4}}},
		{15, 21, api.Entries{Main: []int{9, 5, 4}, Wilds: []int{7}, Out: []int{6}}},
		{22, 9999, api.Entries{Main: []int{9, 4}, Wilds: []int{7}, Out: []int{6}, Open: 1}},
	} {
		for hour := x.from; hour <= min(x.to, 60); hour++ {
			if list := listOf(t, field(), example(), hour); !same(list, x.want) {
				t.Errorf("List at %d = %v", hour, list)
			}
		}
		if list := listOf(t, field(), example(), x.to); !same(list, x.want) {
			t.Errorf("List at %d = %v", x.to, list)
		}
	}
}

// listCase is notices for F with some of its numbers changed, and the list after those of an hour.
type listCase struct {
	field api.Field
	l     []api.Notice
	hour  int
	want  api.Entries
}

// checkLists checks lists, also with the notices the other way round.
func checkLists(t *testing.T, cases map[string]listCase) {
	t.Helper()
	for name, x := range cases {
		for range 2 {
			if list := listOf(t, x.field, x.l, x.hour); !same(list, x.want) {
				t.Errorf("%s: List = %v", name, list)
			}
			slices.Reverse(x.l)
		}
	}
}

// P5.2: TestEntering: who enters, and the order.
func TestEntering(t *testing.T) {
	f := api.Field{Places: 5, Wilds: 1, Guards: 5, Close: 10, Freeze: 20}
	in := func(main ...int) api.Entries { return api.Entries{Main: main, Open: 5 - len(main)} }
	checkLists(t, map[string]listCase{
		"at Close":                          {f, []api.Notice{enter(0, 10, 1, 5), guard(1, 10, 2, 4)}, 10, in(2, 1)},
		"behind Close":                      {f, []api.Notice{enter(0, 11, 1, 5), guard(1, 11, 2, 4)}, 20, in()},
		"behind Freeze":                     {f, []api.Notice{enter(0, 21, 1, 5), guard(1, 21, 2, 4), sign(2, 22, 1), sign(3, 22, 2)}, 30, in()},
		"all of an hour":                    {f, []api.Notice{enter(0, 3, 1, 5), enter(1, 4, 2, 4), enter(2, 5, 3, 3)}, 4, in(2, 1)},
		"lowest rank first":                 {f, []api.Notice{enter(0, 1, 1, 9999), enter(1, 2, 2, 1), guard(2, 3, 3, 9998)}, 9, in(2, 3, 1)},
		"no rank last":                      {f, []api.Notice{enter(0, 1, 1, 0), enter(1, 2, 2, 9999), enter(2, 3, 3, 0), enter(3, 4, 4, 1)}, 9, in(4, 2, 1, 3)},
		"the same rank, by hours":           {f, []api.Notice{enter(5, 1, 9, 7), enter(2, 2, 1, 7), guard(4, 3, 5, 7)}, 9, in(9, 1, 5)},
		"the same rank and hour, by Ids":    {f, []api.Notice{enter(5, 1, 1, 7), enter(3, 1, 9, 7), guard(4, 1, 5, 7)}, 9, in(9, 5, 1)},
		"the first rank counts":             {f, []api.Notice{enter(0, 1, 1, 7), enter(1, 2, 1, 3), enter(2, 3, 2, 5), guard(3, 4, 1, 1)}, 9, in(2, 1)},
		"the first rank counts, if none":    {f, []api.Notice{enter(0, 1, 1, 0), enter(1, 2, 1, 3), enter(2, 3, 2, 5)}, 9, in(2, 1)},
		"the first turn counts":             {f, []api.Notice{enter(0, 1, 1, 7), enter(1, 2, 2, 7), enter(2, 3, 1, 7)}, 9, in(1, 2)},
		"first by Id, not as it is given":   {f, []api.Notice{enter(9, 1, 1, 7), enter(8, 1, 1, 3), enter(2, 3, 2, 5)}, 9, in(1, 2)},
		"who quit enters no more":           {f, []api.Notice{quits(0, 1, 1), enter(1, 2, 1, 7), guard(2, 3, 1, 7), wild(3, 4, 1)}, 9, in()},
		"who quit as an entry":              {f, []api.Notice{enter(0, 1, 1, 7), quits(1, 2, 1), enter(2, 3, 1, 7), wild(3, 4, 1)}, 9, in()},
		"quits and enters in one hour":      {f, []api.Notice{enter(1, 1, 1, 7), quits(0, 1, 1), enter(2, 1, 2, 7)}, 9, in(2)},
		"signing in is no entry":            {f, []api.Notice{sign(0, 1, 1), sign(1, 30, 2)}, 30, in()},
		"twice the same notice":             {f, []api.Notice{enter(0, 1, 1, 7), enter(1, 1, 2, 7), enter(0, 1, 1, 7)}, 9, in(1, 2)},
		"a wild card, and an entry then":    {f, []api.Notice{wild(0, 1, 1), enter(1, 2, 1, 7)}, 9, api.Entries{Wilds: []int{1}, Open: 5}},
		"all that the first hour brings":    {f, []api.Notice{enter(0, 0, 1, 7), enter(1, 0, 2, 6), quits(2, 0, 1)}, 0, in(2)},
		"the field closes at once":          {api.Field{Places: 2}, []api.Notice{enter(0, 0, 1, 7), enter(1, 1, 2, 6), sign(2, 2, 2)}, 9, api.Entries{Main: []int{1}, Open: 1}},
		"the field closes at the last hour": {api.Field{Places: 2, Close: 9999, Freeze: 9999}, []api.Notice{enter(0, 9999, 1, 7)}, 9999, api.Entries{Main: []int{1}, Open: 1}},
	})
}

// P5.2: TestGuards: how many protected entries have a place up to Freeze.
func TestGuards(t *testing.T) {
	l := func(more ...api.Notice) []api.Notice {
		return append([]api.Notice{guard(0, 1, 1, 1), guard(1, 1, 2, 2), enter(2, 1, 3, 3), guard(3, 1, 4, 4), enter(4, 1, 5, 5)}, more...)
	}
	f := func(places, guards int) api.Field {
		return api.Field{Places: places, Guards: guards, Close: 10, Freeze: 20}
	}
	checkLists(t, map[string]listCase{
		"none":                       {f(5, 0), l(), 9, api.Entries{Main: []int{3, 5}, Out: []int{1, 2, 4}, Open: 3}},
		"one":                        {f(5, 1), l(), 9, api.Entries{Main: []int{1, 3, 5}, Out: []int{2, 4}, Open: 2}},
		"two":                        {f(5, 2), l(), 9, api.Entries{Main: []int{1, 2, 3, 5}, Out: []int{4}, Open: 1}},
		"three":                      {f(5, 3), l(), 9, api.Entries{Main: []int{1, 2, 3, 4, 5}}},
		"more than there are":        {f(6, 32), l(), 9, api.Entries{Main: []int{1, 2, 3, 4, 5}, Open: 1}},
		"one, and two places":        {f(2, 1), l(), 9, api.Entries{Main: []int{1, 3}, Out: []int{2, 4, 5}}},
		"more than places":           {f(1, 2), l(), 9, api.Entries{Main: []int{1}, Out: []int{2, 3, 4, 5}}},
		"a protected one quits":      {f(2, 1), l(quits(9, 2, 1)), 9, api.Entries{Main: []int{2, 3}, Out: []int{4, 5}}},
		"another one quits":          {f(2, 1), l(quits(9, 2, 3)), 9, api.Entries{Main: []int{1, 5}, Out: []int{2, 4}}},
		"protected and wild, for it": {api.Field{Places: 2, Wilds: 1, Guards: 1, Close: 10, Freeze: 20}, l(wild(9, 2, 1)), 9, api.Entries{Main: []int{2, 3}, Wilds: []int{1}, Out: []int{4, 5}}},
		"pushed out by a better one": {f(1, 1), []api.Notice{guard(0, 1, 1, 5), guard(1, 2, 2, 4)}, 9, api.Entries{Main: []int{2}, Out: []int{1}}},
		"entered without protection": {f(5, 0), []api.Notice{enter(0, 1, 1, 5), guard(1, 2, 1, 5)}, 9, api.Entries{Main: []int{1}, Open: 4}},
		"entered with protection":    {f(5, 0), []api.Notice{guard(0, 1, 1, 5), enter(1, 2, 1, 5)}, 9, api.Entries{Out: []int{1}, Open: 5}},
	})
}

// P5.2: TestWilds: who gets a wild card, and what comes of one that is given back.
func TestWilds(t *testing.T) {
	f := func(wilds int) api.Field {
		return api.Field{Places: 2, Wilds: wilds, Guards: 1, Close: 10, Freeze: 20}
	}
	l := func(more ...api.Notice) []api.Notice { return append(entered(4), more...) }
	checkLists(t, map[string]listCase{
		"none":                           {f(0), l(wild(9, 1, 1)), 9, api.Entries{Main: []int{1, 2}, Out: []int{3, 4}}},
		"one who is in":                  {f(1), l(wild(9, 1, 1)), 9, api.Entries{Main: []int{2, 3}, Wilds: []int{1}, Out: []int{4}}},
		"one who is out":                 {f(1), l(wild(9, 1, 4)), 9, api.Entries{Main: []int{1, 2}, Wilds: []int{4}, Out: []int{3}}},
		"one who is no entry":            {f(1), l(wild(9, 1, 70)), 9, api.Entries{Main: []int{1, 2}, Wilds: []int{70}, Out: []int{3, 4}}},
		"as they got it":                 {f(3), l(wild(9, 2, 1), wild(8, 2, 60), wild(20, 1, 70)), 9, api.Entries{Main: []int{2, 3}, Wilds: []int{70, 60, 1}, Out: []int{4}}},
		"too many":                       {f(2), l(wild(9, 2, 1), wild(8, 2, 60), wild(20, 1, 70)), 9, api.Entries{Main: []int{1, 2}, Wilds: []int{70, 60}, Out: []int{3, 4}}},
		"too many do not wait":           {f(1), l(wild(9, 1, 70), wild(10, 2, 60), quits(11, 3, 70)), 9, api.Entries{Main: []int{1, 2}, Out: []int{3, 4}}},
		"the same one twice":             {f(2), l(wild(9, 1, 70), wild(10, 2, 70), wild(11, 3, 60)), 9, api.Entries{Main: []int{1, 2}, Wilds: []int{70, 60}, Out: []int{3, 4}}},
		"at Freeze":                      {f(1), l(wild(9, 20, 70)), 20, api.Entries{Main: []int{1, 2}, Wilds: []int{70}, Out: []int{3, 4}}},
		"behind Freeze":                  {f(1), l(wild(9, 21, 70), wild(10, 21, 1)), 30, api.Entries{Main: []int{1, 2}, Out: []int{3, 4}}},
		"to one who has quit":            {f(1), l(quits(9, 1, 1), wild(10, 2, 1)), 9, api.Entries{Main: []int{2, 3}, Out: []int{4}}},
		"given back":                     {f(1), l(wild(9, 1, 1), quits(10, 2, 1)), 9, api.Entries{Main: []int{2, 3}, Out: []int{4}}},
		"given back, and not to the one": {f(1), l(wild(9, 1, 1), quits(10, 2, 1), wild(11, 3, 1)), 9, api.Entries{Main: []int{2, 3}, Out: []int{4}}},
		"given back, and to another":     {f(1), l(wild(9, 1, 1), quits(10, 2, 1), wild(11, 3, 4)), 9, api.Entries{Main: []int{2, 3}, Wilds: []int{4}}},
		"given back, the first of two":   {f(2), l(wild(9, 1, 70), wild(10, 2, 60), quits(11, 3, 70), wild(12, 4, 50)), 9, api.Entries{Main: []int{1, 2}, Wilds: []int{60, 50}, Out: []int{3, 4}}},
		"given back at Freeze":           {f(1), l(wild(9, 1, 70), quits(10, 20, 70), sign(11, 21, 3)), 30, api.Entries{Main: []int{1, 2}, Out: []int{3, 4}}},
		"given back behind Freeze":       {f(1), l(wild(9, 1, 70), quits(10, 21, 70)), 21, api.Entries{Main: []int{1, 2}, Out: []int{3, 4}, Open: 1}},
		"a place more for an alternate":  {f(1), l(wild(9, 1, 70), quits(10, 21, 70), sign(11, 22, 4)), 22, api.Entries{Main: []int{1, 2, 4}, Out: []int{3}}},
		"a place more at once":           {f(1), l(wild(9, 1, 70), quits(10, 21, 70), sign(11, 3, 4)), 21, api.Entries{Main: []int{1, 2, 4}, Out: []int{3}}},
		"two places more":                {f(2), l(wild(9, 1, 70), wild(10, 1, 60), quits(11, 21, 70), sign(12, 22, 4), quits(13, 23, 60)), 30, api.Entries{Main: []int{1, 2, 4}, Out: []int{3}, Open: 1}},
		"given back only once":           {f(1), l(wild(9, 1, 70), quits(10, 21, 70), quits(11, 22, 70)), 30, api.Entries{Main: []int{1, 2}, Out: []int{3, 4}, Open: 1}},
		"given back before, once more":   {f(1), l(wild(9, 1, 70), quits(10, 19, 70), quits(11, 22, 70)), 30, api.Entries{Main: []int{1, 2}, Out: []int{3, 4}}},
		"no card to give back":           {f(1), l(wild(9, 1, 70), quits(10, 21, 60), quits(11, 21, 4)), 30, api.Entries{Main: []int{1, 2}, Wilds: []int{70}, Out: []int{3}}},
		"a card that came too late":      {f(1), l(wild(9, 21, 70), quits(10, 22, 70)), 30, api.Entries{Main: []int{1, 2}, Out: []int{3, 4}}},
		"as many as there can be":        {api.Field{Places: 1, Wilds: 32, Freeze: 20}, append(l(wild(9, 1, 5)), wild(10, 1, 6)), 9, api.Entries{Main: []int{1}, Wilds: []int{5, 6}, Out: []int{2, 3, 4}}},
	})
}

// P5.2: TestBehindFreeze: who stays in behind Freeze, and who moves up.
func TestBehindFreeze(t *testing.T) {
	f := func(places, guards int) api.Field {
		return api.Field{Places: places, Wilds: 1, Guards: guards, Close: 10, Freeze: 20}
	}
	l := func(more ...api.Notice) []api.Notice {
		return append([]api.Notice{guard(0, 1, 1, 1), enter(1, 1, 2, 2), guard(2, 1, 3, 3), enter(3, 1, 4, 4), enter(4, 1, 5, 5)}, more...)
	}
	checkLists(t, map[string]listCase{
		"quits at Freeze":                {f(2, 1), l(quits(9, 20, 2)), 21, api.Entries{Main: []int{1, 4}, Out: []int{3, 5}}},
		"quits behind Freeze":            {f(2, 1), l(quits(9, 21, 2)), 21, api.Entries{Main: []int{1}, Out: []int{3, 4, 5}, Open: 1}},
		"the first who signed in":        {f(2, 1), l(sign(8, 1, 5), quits(9, 21, 2)), 21, api.Entries{Main: []int{1, 5}, Out: []int{3, 4}}},
		"the first in the order":         {f(2, 1), l(sign(7, 1, 5), sign(8, 2, 4), quits(9, 21, 2)), 21, api.Entries{Main: []int{1, 4}, Out: []int{3, 5}}},
		"signs in later":                 {f(2, 1), l(quits(9, 21, 2), sign(10, 22, 5), sign(11, 23, 4)), 30, api.Entries{Main: []int{1, 5}, Out: []int{3, 4}}},
		"signs in in the same hour":      {f(2, 1), l(quits(9, 21, 2), sign(10, 21, 5), sign(11, 21, 4)), 21, api.Entries{Main: []int{1, 5}, Out: []int{3, 4}}},
		"signs in before in that hour":   {f(2, 1), l(quits(12, 21, 2), sign(10, 21, 5), sign(11, 21, 4)), 21, api.Entries{Main: []int{1, 4}, Out: []int{3, 5}}},
		"as they got in":                 {f(3, 1), l(quits(9, 21, 1), quits(10, 22, 2), sign(11, 23, 5), sign(12, 24, 3)), 30, api.Entries{Main: []int{4, 5, 3}}},
		"a protected one is passed over": {f(2, 1), l(sign(7, 1, 3), sign(8, 2, 4), quits(9, 21, 2)), 21, api.Entries{Main: []int{1, 4}, Out: []int{3, 5}}},
		"a protected one moves up":       {f(2, 1), l(sign(7, 1, 3), sign(8, 2, 4), quits(9, 21, 1)), 21, api.Entries{Main: []int{2, 3}, Out: []int{4, 5}}},
		"a protected one waits":          {f(2, 1), l(sign(7, 1, 3), quits(8, 21, 2), quits(9, 22, 1)), 21, api.Entries{Main: []int{1}, Out: []int{3, 4, 5}, Open: 1}},
		"a protected one waited":         {f(2, 1), l(sign(7, 1, 3), quits(8, 21, 2), quits(9, 22, 1)), 22, api.Entries{Main: []int{3}, Out: []int{4, 5}, Open: 1}},
		"open at Freeze, and passed over": {f(4, 1), l(), 21,
			api.Entries{Main: []int{1, 2, 4, 5}, Out: []int{3}}},
		"open at Freeze":                 {f(5, 1), l(sign(9, 21, 3)), 21, api.Entries{Main: []int{1, 2, 4, 5}, Out: []int{3}, Open: 1}},
		"open at Freeze, two move up":    {f(5, 1), l(guard(5, 2, 6, 6), sign(8, 21, 3), sign(9, 21, 6), quits(10, 22, 1)), 30, api.Entries{Main: []int{2, 4, 5, 3}, Out: []int{6}, Open: 1}},
		"no protected ones":              {f(2, 0), l(sign(8, 1, 3), quits(9, 21, 2)), 30, api.Entries{Main: []int{4}, Out: []int{1, 3, 5}, Open: 1}},
		"who is in need not sign in":     {f(2, 1), l(sign(8, 21, 3), sign(9, 21, 4), sign(10, 21, 5)), 30, api.Entries{Main: []int{1, 2}, Out: []int{3, 4, 5}}},
		"an alternate quits":             {f(2, 1), l(sign(8, 21, 4), sign(9, 21, 5), quits(10, 22, 4), quits(11, 23, 2)), 30, api.Entries{Main: []int{1, 5}, Out: []int{3}}},
		"who moved up quits":             {f(2, 1), l(sign(8, 21, 4), sign(9, 21, 5), quits(10, 22, 2), quits(11, 23, 4)), 30, api.Entries{Main: []int{1, 5}, Out: []int{3}}},
		"all quit":                       {f(2, 1), l(quits(9, 21, 1), quits(10, 21, 2)), 21, api.Entries{Out: []int{3, 4, 5}, Open: 2}},
		"signed in, and no entry":        {f(2, 1), l(sign(7, 1, 70), sign(8, 1, 5), quits(9, 21, 2)), 30, api.Entries{Main: []int{1, 5}, Out: []int{3, 4}}},
		"signed in, with a wild card":    {f(2, 1), l(sign(7, 1, 4), wild(8, 1, 4), quits(9, 21, 2)), 30, api.Entries{Main: []int{1}, Wilds: []int{4}, Out: []int{3, 5}, Open: 1}},
		"the wild card came back":        {f(2, 1), l(sign(7, 1, 4), wild(8, 1, 4), quits(9, 21, 4), sign(10, 22, 5)), 30, api.Entries{Main: []int{1, 2, 5}, Out: []int{3}}},
		"a place more, but not for them": {f(2, 1), l(sign(7, 1, 3), wild(8, 1, 70), quits(9, 21, 70)), 30, api.Entries{Main: []int{1, 2}, Out: []int{3, 4, 5}, Open: 1}},
	})
}

// P5.3: TestStand: the parts of the list, and the places in them.
func TestStand(t *testing.T) {
	late := example(sign(11, 23, 6), quits(12, 24, 9))
	for i, x := range []struct {
		l                           []api.Notice
		hour, player, where, number int
	}{
		{example(), 12, 9, 1, 1}, {example(), 12, 8, 1, 2}, {example(), 12, 5, 1, 3},
		{example(), 12, 7, 2, 1}, {example(), 12, 6, 3, 1}, {example(), 12, 4, 3, 2},
		{example(), 12, 3, 0, 0}, {example(), 12, 0, 0, 0}, {example(), 0, 7, 0, 0},
		{example(), 15, 8, 0, 0}, {example(), 21, 5, 1, 2}, {example(), 22, 5, 0, 0}, {example(), 22, 4, 1, 2},
		{late, 23, 6, 3, 1}, {late, 24, 6, 1, 2}, {late, 24, 4, 1, 1}, {late, 24, 9, 0, 0},
		{example(quits(11, 13, 7)), 13, 7, 0, 0},
	} {
		if where, number, e := entry.Stand(field(), x.l, x.hour, x.player); where != x.where || number != x.number || e != api.OK {
			t.Errorf("%d: Stand = %d, %d, %d", i, where, number, e)
		}
	}
	many := api.Field{Places: 3, Wilds: 3, Freeze: 20}
	l := append(entered(9), wild(20, 1, 70), wild(21, 2, 60), wild(22, 3, 80))
	for player, want := range map[int][2]int{1: {1, 1}, 3: {1, 3}, 4: {3, 1}, 9: {3, 6}, 70: {2, 1}, 60: {2, 2}, 80: {2, 3}, 10: {0, 0}} {
		if where, number, e := entry.Stand(many, l, 3, player); where != want[0] || number != want[1] || e != api.OK {
			t.Errorf("Stand of %d = %d, %d, %d", player, where, number, e)
		}
	}
}

// P5.2, P5.3: TestListAll compares lists, and where players stand, with the chapter's words.
func TestListAll(t *testing.T) {
	late, open := 0, 0
	eachList(t, 1500, 9, 40, func(t *testing.T, r *rand.Rand, f api.Field, l []api.Notice) {
		hour := r.IntN(lastHour + 1)
		s := stateAt(f, l, hour)
		want := s.list()
		if list := listOf(t, f, l, hour); !same(list, want) {
			t.Errorf("List at %d = %v instead of %v", hour, list, want)
		}
		parts := [][]int{nil, want.Main, want.Wilds, want.Out}
		for player := range 10 {
			where, number, e := entry.Stand(f, l, hour, player)
			if e != api.OK || where < 0 || where > 3 || number < 0 || number > len(parts[where]) {
				t.Fatalf("Stand of %d at %d = %d, %d, %d", player, hour, where, number, e)
			}
			none := !slices.Contains(slices.Concat(parts...), player)
			if none != (where == 0) || where > 0 && (number == 0 || parts[where][number-1] != player) || where == 0 && number != 0 {
				t.Errorf("Stand of %d at %d = %d, %d in %v", player, hour, where, number, want)
			}
		}
		if hour > f.Freeze && !same(want, stateOf(f, l, f.Freeze)) {
			late++
		}
		if want.Open > 0 && len(want.Out) > 0 {
			open++
		}
	})
	if late < 300 || open < 200 {
		t.Errorf("only %d lists changed behind Freeze, %d have alternates and open places", late, open)
	}
}

// stateOf returns the list by the chapter's words.
func stateOf(f api.Field, l []api.Notice, hour int) api.Entries {
	s := stateAt(f, l, hour)
	return s.list()
}
