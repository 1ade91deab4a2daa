"""Turnsall: worlds whose solutions are turned into one another."""
