"""Intervals and boxes of integers."""
