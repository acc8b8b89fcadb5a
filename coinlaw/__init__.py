"""Coinlaw: money by one rule of sums."""
