"""Odds: a language for random processes with exact inference."""
