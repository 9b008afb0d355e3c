package lot

import (
	"acme/api"
	"acme/exact"
)

// choices returns in how many ways some of so many pieces can be taken. If they are more than there are, a factor is 0.
func choices(pieces, taken int) int {
	ways := 1
	for done := range taken {
		ways = ways * (pieces - done) / (done + 1)
	}
	return ways
}

// chance returns with how many samples a lot passes, and how many there are. All are at most choices(50, 25), which is below 1.3 * 10^14: times a Den it still fits.
func chance(size, bad int, p api.LotPlan) (passed, all int) {
	for seen := range p.Accept + 1 {
		passed += choices(bad, seen) * choices(size-bad, p.Sample-seen)
	}
	return passed, choices(size, p.Sample)
}

func isSize(size int) bool { return exact.AllFrom(1, api.MaxLotSize, size) }

func isPlan(size int, p api.LotPlan) bool {
	return exact.AllFrom(0, size, p.Sample) && exact.AllFrom(0, p.Sample, p.Accept)
}

func areRisks(risks ...api.Ratio) bool {
	for _, r := range risks {
		if !exact.AllFrom(1, api.MaxLotDen, r.Den) || !exact.AllFrom(0, r.Den, r.Num) {
			return false
		}
	}
	return true
}

// Chance returns the chance that a lot passes.
func Chance(size, bad int, p api.LotPlan) (api.Ratio, api.Errno) {
	if !isSize(size) || !exact.AllFrom(0, size, bad) {
		return api.Ratio{}, api.ErrRange
	}
	if !isPlan(size, p) {
		return api.Ratio{}, api.ErrArg
	}
	return exact.Ratio(chance(size, bad, p)), api.OK
}

// Plan returns the smallest sample that keeps two risks.
func Plan(size, good, bad int, hard, soft api.Ratio) (api.LotPlan, api.Errno) {
	if !isSize(size) || !exact.AllFrom(0, size, good, bad) || good >= bad {
		return api.LotPlan{}, api.ErrRange
	}
	if !areRisks(hard, soft) {
		return api.LotPlan{}, api.ErrArg
	}
	keeps := func(p api.LotPlan) bool {
		right, all := chance(size, good, p)
		wrong, _ := chance(size, bad, p)
		return (all-right)*hard.Den <= hard.Num*all && wrong*soft.Den <= soft.Num*all
	}
	for sample := range size + 1 {
		for accept := range sample + 1 {
			if p := (api.LotPlan{Sample: sample, Accept: accept}); keeps(p) {
				return p, api.OK
			}
		}
	}
	// It does not come to this: the whole lot, with as many accepted as are in a good one, keeps all risks.
	return api.LotPlan{Sample: size, Accept: good}, api.OK
}

// Bound returns how many bad pieces there can be after a sample.
func Bound(size int, seen api.LotPlan, risk api.Ratio) (int, api.Errno) {
	if !isSize(size) {
		return 0, api.ErrRange
	}
	if !isPlan(size, seen) || !areRisks(risk) {
		return 0, api.ErrArg
	}
	bad := size
	for bad > seen.Accept {
		passed, all := chance(size, bad, seen)
		if passed*risk.Den >= risk.Num*all {
			break
		}
		bad--
	}
	// With no more bad pieces than are accepted each sample passes.
	return bad, api.OK
}
