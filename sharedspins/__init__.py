"""Spins shared: games of two to four who can't talk, and what plans and shared spins win in them."""
