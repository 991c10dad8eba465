"""An abacus of beads on rods: what its frames show."""
