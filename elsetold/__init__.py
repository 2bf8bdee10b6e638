"""Elsetold: a cry told on to all but those who told it."""
