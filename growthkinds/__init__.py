"""Growthkinds: how products of a few tables grow, in any order."""
