"""Keepfew: a shelf of a few places, and a row of wishes."""
