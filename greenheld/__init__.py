"""Greenheld: signals of a whole town, held for all rows of cars."""
