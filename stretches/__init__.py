"""Stretches: things that last for a while, told as stretches of time."""
