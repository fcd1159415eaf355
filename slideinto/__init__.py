"""Slideinto: bodies of squares that slide into each other."""
