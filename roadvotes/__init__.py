"""Votes on the valley's roads."""
