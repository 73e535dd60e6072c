"""Periods of what's seen now and then."""
