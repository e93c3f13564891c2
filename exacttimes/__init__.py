"""Played: what's written, in exact time."""
