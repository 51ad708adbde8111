"""Lookmade: programs led to nets that are only looked at, and the one end of all falls."""
