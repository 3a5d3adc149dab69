package tape

import "liaison/api"

// power is whether the power is on, and maybe how many steps it lasts. Its zero value is on, and not told how long.
type power struct {
	off  bool
	told bool
	left int
}

// Arm tells how many steps the power lasts.
func (p *power) Arm(steps int) {
	// Power that is off stays off: a crash alone turns it on.
	p.told = steps >= 0
	p.left = max(steps, 0)
}

// Off tells whether the power is off.
func (p *power) Off() bool {
	return p.off
}

// step is a step's power: its error, if there is none, or one step fewer is left.
func (p *power) step() error {
	if p.told && p.left == 0 {
		p.off = true
	}
	if p.off {
		return api.ErrPower
	}
	if p.told {
		p.left--
	}
	return nil
}
