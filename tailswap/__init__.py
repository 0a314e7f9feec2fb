"""Tailswap: ribbons of beads that exchange their tails, place by place."""
