"""Texts written by words one behind the other, and whether they part in one way alone."""
