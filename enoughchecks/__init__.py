"""Enoughchecks: which comparisons of ways make sure that all ways agree."""
