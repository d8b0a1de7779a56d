"""Inkdays: old entries whose days can be read in several ways, read together."""
