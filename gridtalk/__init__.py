"""Expressions over matrices, in eight arithmetics."""
