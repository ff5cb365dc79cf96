"""Selves: what a helper does that can turn into other selves, and what comes of it."""
