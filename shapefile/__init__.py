"""Fonts out of their files: load one, then ask for its glyphs and their metrics."""
