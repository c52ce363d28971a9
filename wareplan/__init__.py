"""Wareplan: the best plan of wares, in exact fractions, with what shows that it is."""
