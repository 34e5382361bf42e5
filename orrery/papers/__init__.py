"""Texts: how lines and numbers are written."""
