"""Backgammon, a match with the doubling cube."""
