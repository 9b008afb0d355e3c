package mill

import (
	"cmp"
	"slices"

	"acme/api"
	"acme/exact"
)

// causes is the set of some causes.
type causes map[api.MillCause]bool

// isCause reports whether there can be such a cause.
func isCause(c api.MillCause) bool {
	switch c.Kind {
	case api.MillCoil, api.MillDie:
		return c.Machine == 0 && exact.AllFrom(0, api.MaxMillNumber, c.Number)
	case api.MillHour:
		return exact.AllFrom(0, api.MaxMillNumber, c.Machine) && exact.AllFrom(0, api.MaxMillHour, c.Number)
	}
	return false
}

// causesOf returns all causes that a lot has. Runs are as they should be.
func causesOf(l []api.MillRun, lot api.MillLot) (causes, api.Errno) {
	made := hours{lot}
	if !made.valid() {
		return nil, api.ErrArg
	}
	had := causes{}
	for _, r := range l {
		for c := range (run{r}).causes(made) {
			had[c] = true
			if len(had) > api.MaxMillNumber {
				return nil, api.ErrLong
			}
		}
	}
	return had, api.OK
}

// causesOfEach returns all causes of each lot.
func causesOfEach(l []api.MillRun, lots ...api.MillLot) ([]causes, api.Errno) {
	var all []causes
	for _, lot := range lots {
		had, e := causesOf(l, lot)
		if e != api.OK {
			return nil, e
		}
		all = append(all, had)
	}
	return all, api.OK
}

// culpritsOf returns all causes that all bad lots have, and no good ones.
func culpritsOf(l []api.MillRun, bad, good []api.MillLot) (causes, api.Errno) {
	if e := Check(l); e != api.OK {
		return nil, e
	}
	if len(bad) > api.MaxMillLots || len(good) > api.MaxMillLots {
		return nil, api.ErrLong
	}
	if len(bad) == 0 {
		return nil, api.ErrNone
	}
	all, e := causesOfEach(l, slices.Concat(bad, good)...)
	if e != api.OK {
		return nil, e
	}
	blamed := all[0]
	for _, had := range all[1:len(bad)] {
		blamed = blamed.those(func(c api.MillCause) bool { return had[c] })
	}
	for _, had := range all[len(bad):] {
		blamed = blamed.those(func(c api.MillCause) bool { return !had[c] })
	}
	return blamed, api.OK
}

// those returns the causes for which a condition holds.
func (l causes) those(holds func(api.MillCause) bool) causes {
	kept := causes{}
	for c := range l {
		if holds(c) {
			kept[c] = true
		}
	}
	return kept
}

// most returns how many culprits there are at most when it is known whether a lot is bad that has some causes.
func (l causes) most(had causes) int {
	kept := len(l.those(func(c api.MillCause) bool { return had[c] }))
	return max(kept, len(l)-kept)
}

// ordered returns causes by kind, machine and number.
func (l causes) ordered() []api.MillCause {
	var list []api.MillCause
	for c := range l {
		list = append(list, c)
	}
	slices.SortFunc(list, func(a, b api.MillCause) int {
		return cmp.Or(cmp.Compare(a.Kind, b.Kind), cmp.Compare(a.Machine, b.Machine), cmp.Compare(a.Number, b.Number))
	})
	return list
}
