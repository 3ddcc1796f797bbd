"""Pleathall: the orders in which the squares of a folded sheet can lie, all on one square."""
