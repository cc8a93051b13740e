"""Boughs: sums of files as trees."""
