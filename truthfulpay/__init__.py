"""Mechanisms with transfers: truthful payments and cyclic monotonicity."""
