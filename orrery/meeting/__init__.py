"""Meetings of two objects, and the screening of a catalogue."""
