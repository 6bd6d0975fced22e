"""Mustcross: what has to cross on a board of one layer."""
