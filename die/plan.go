package die

import (
	"acme/api"
	"acme/exact"
)

// Plan returns a plan with the fewest settings.
func Plan(t api.DieTool, l []api.DieOrder) ([]api.DieSetting, api.Errno) {
	s, e := shopOf(t, l)
	if e != api.OK {
		return nil, e
	}
	var plan []api.DieSetting
	done := 0
	for setting, reached := range s.steps() {
		plan, done = append(plan, setting), reached
	}
	if done < s.pieces {
		return nil, api.ErrNone
	}
	return plan, api.OK
}

// Most returns how many pieces can be sure with some settings.
func Most(t api.DieTool, l []api.DieOrder, settings int) (int, api.Errno) {
	s, e := shopOf(t, l)
	if e != api.OK {
		return 0, e
	}
	if !exact.AllFrom(0, api.MaxDieSettings, settings) {
		return 0, api.ErrRange
	}
	done := 0
	for _, reached := range s.steps() {
		if settings == 0 {
			break
		}
		settings, done = settings-1, reached
	}
	return done, api.OK
}

// Judge returns the first piece that is not sure.
func Judge(t api.DieTool, l []api.DieOrder, plan []api.DieSetting) (int, api.Errno) {
	s, e := shopOf(t, l)
	if e != api.OK {
		return 0, e
	}
	if len(plan) > api.MaxDieSettings {
		return 0, api.ErrLong
	}
	if !s.validPlan(plan) {
		return 0, api.ErrArg
	}
	if len(plan) == 0 || plan[0].From > 0 {
		return 0, api.OK
	}
	for i, setting := range plan {
		next := s.pieces
		if i+1 < len(plan) {
			next = plan[i+1].From
		}
		just := api.Span{Low: setting.Target, High: setting.Target}
		if _, reached := s.reach(just, setting.From, next); reached < next {
			return reached, api.OK
		}
	}
	return s.pieces, api.OK
}

func (s shop) validPlan(plan []api.DieSetting) bool {
	var froms, targets []int
	for _, setting := range plan {
		froms, targets = append(froms, setting.From), append(targets, setting.Target)
	}
	all := allTargets()
	return s.inOrder(froms...) && exact.AllFrom(all.Low, all.High, targets...)
}

// Proves returns the first number that can be done together with the next one, or -1.
func Proves(t api.DieTool, l []api.DieOrder, pieces []int) (int, api.Errno) {
	s, e := shopOf(t, l)
	if e != api.OK {
		return 0, e
	}
	if len(pieces) > api.MaxDieSettings {
		return 0, api.ErrLong
	}
	if !s.inOrder(pieces...) {
		return 0, api.ErrArg
	}
	for i := range len(pieces) - 1 {
		end := pieces[i+1] + 1
		if _, reached := s.reach(allTargets(), pieces[i], end); reached == end {
			return i, api.OK
		}
	}
	return -1, api.OK
}
