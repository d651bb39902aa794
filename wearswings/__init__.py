"""Wearswings: which load never wears more than another."""
