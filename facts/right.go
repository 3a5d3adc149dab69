package facts

import (
	"math"

	"liaison/api"
	"liaison/ids"
	"liaison/scope"
)

// rule asks whether what it names of a fact is in range, and takes it out: behind all rules of a kind just what the kind doesn't name is left.
type rule func(f *Fact) bool

// Right tells whether a fact is right.
func (f Fact) Right() bool {
	if !within(f.Kind, Opened, Turned) {
		return false
	}
	for _, take := range rules(f.Kind) {
		if !take(&f) {
			return false
		}
	}
	// By bits: minus zero is equal to zero, but isn't it.
	return f == Fact{Kind: f.Kind} && math.Float64bits(f.Expires) == 0
}

// rules is what facts of a kind name.
func rules(kind int) []rule {
	reg := ranged(regTag, 0, api.MaxRegs-1)
	part := ranged(partTag, 0, api.MaxParts-1)
	protocol := ranged(protocolTag, api.PC, api.CC)
	switch kind {
	case Opened:
		return []rule{context, ranged(parentTag, 0, api.MaxParts)}
	case Enrolled:
		return []rule{activity, reg, ranged(nodeTag, 0, api.MaxNodes-1), part, protocol}
	case Seated:
		return []rule{activity, reg, seat}
	case Decided:
		return []rule{activity, ranged(decisionTag, 1, 2)}
	case Forgot:
		return []rule{activity}
	case Joined:
		return []rule{part, activity, protocol}
	case Placed:
		return []rule{part, reg}
	case Turned:
		return []rule{part, seat}
	}
	return nil
}

// ranged is the rule of a tag's number: it is one from the least to the most.
func ranged(tag, least, most int) rule {
	return func(f *Fact) bool {
		place := places(f)[tag]
		n := *place
		*place = 0
		return within(n, least, most)
	}
}

// within tells whether a number is one from the least to the most.
func within(n, least, most int) bool {
	return least <= n && n <= most
}

// activity is the rule of Act.
func activity(f *Fact) bool {
	a := f.Act
	f.Act = api.Act{}
	return ids.Right(a)
}

// context is the rule of what an activity's context has.
func context(f *Fact) bool {
	c := api.Context{Act: f.Act, Outcome: f.Outcome, Depth: f.Depth, Expires: f.Expires}
	f.Act, f.Outcome, f.Depth, f.Expires = api.Act{}, 0, 0, 0
	return scope.Right(c)
}

// seat is the rule of State and How.
func seat(f *Fact) bool {
	state, how := f.State, f.How
	f.State, f.How = 0, 0
	return within(state, api.Active, api.Ended) && rightHow(state, how)
}

// rightHow tells whether the kind by which a seat ended goes with its state.
func rightHow(state, how int) bool {
	if state != api.Ended {
		return how == 0
	}
	return how == api.Exit || within(how, api.Fail, api.Compensated)
}
