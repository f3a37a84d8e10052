"""Floats of four formats in five roundings, told by their bits."""
