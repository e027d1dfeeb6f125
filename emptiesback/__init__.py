"""Emptiesback: empties traded for full bottles."""
