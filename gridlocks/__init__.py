"""Gridlocks: two programs and the locks they share."""
