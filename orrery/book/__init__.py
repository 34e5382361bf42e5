"""Catalogues: how their contents are edited, compared, saved and read."""
