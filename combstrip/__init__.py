"""Combstrip: planks filled by combs, each place under just one tooth."""
