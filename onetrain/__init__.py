"""Onetrain: marches on a tree of roads, and the one train they end in."""
