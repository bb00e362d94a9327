"""Sums of words whose letters stand for figures."""
