"""Precread: a reader of operators whose table grows as it reads."""
