"""Spins shared: games of two to four who can't talk, and what plans win in them."""
