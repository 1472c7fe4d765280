package disk

// power: the zero value is on, without a fuse, as a new disk has it and a crash leaves it.
type power struct {
	off   bool
	fused bool
	fuse  int // operations that are still carried out, where fused
}

// spend: may the operation be carried out? The one that finds the fuse at 0 is where the power goes.
func (p *power) spend() bool {
	if p.off {
		return false
	}
	if !p.fused {
		return true
	}
	if p.fuse == 0 {
		*p = power{off: true}
		return false
	}
	p.fuse--
	return true
}
