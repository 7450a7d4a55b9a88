"""Halfsetup: a system's packages set up by scripts that may fail."""
