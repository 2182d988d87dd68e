"""Backindex: a text kept by the order of its endings."""
