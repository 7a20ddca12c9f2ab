package play

import (
	"slices"

	"deuce/api"
)

// jobsOf returns the jobs of matches that are in order, round by round.
func jobsOf(bouts []api.Bout, stages []api.Stage) []api.Job {
	jobOf := func(round, place int) int {
		return slices.IndexFunc(bouts, func(b api.Bout) bool { return b.Round == round && b.Place == place })
	}
	var out []api.Job
	for _, b := range bouts {
		j := api.Job{Length: stages[b.Round].Length, Due: stages[b.Round].Due}
		for side := range 2 {
			if before := jobOf(b.Round-1, 2*b.Place+side); before != -1 {
				j.After = append(j.After, before)
			}
		}
		out = append(out, j)
	}
	return out
}
