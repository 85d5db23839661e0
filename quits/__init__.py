"""Quits: a house between traders."""
