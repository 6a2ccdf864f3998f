"""Dotpress: sums and products of words made into gates."""
