"""Wearplan: parts that wear, plans of changes, papers for them."""
