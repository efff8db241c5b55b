"""A play-off of three, asked by threebouts.ring.answers."""
