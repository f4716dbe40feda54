"""Squares of signs, and all that is one with them."""
