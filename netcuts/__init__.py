"""Tapers: how the sides of a fishing net are cut, evenly."""
