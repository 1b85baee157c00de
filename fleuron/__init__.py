"""Fleuron: a font house."""
