"""Cushionshots: a ball on a table with cushions."""
