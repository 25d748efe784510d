"""Poolshares: amounts that hang on what happens, and how shares become calmer."""
