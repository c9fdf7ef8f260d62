"""Towers that watch one another, by rules that rise."""
