"""Truepart: solid parts whose names survive edits."""
