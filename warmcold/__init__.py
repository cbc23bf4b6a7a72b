"""Warmcold: a thing sought by warmer and colder."""
