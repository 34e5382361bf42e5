"""Texts of lines, and certificates: how they are made, written, read and checked."""
