"""Guillotine cutting of slabs: the most valuable pattern."""
