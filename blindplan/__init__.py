"""Blindplan: a way out for one who does not know where one is."""
