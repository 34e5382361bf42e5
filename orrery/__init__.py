"""Orrery: where objects can be, and what surely follows."""
