"""Learnprices: prices that move as goods sell."""
