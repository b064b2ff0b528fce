"""Fonts out of their files: load one, then ask for its glyphs, their metrics and outlines, and draw them."""
