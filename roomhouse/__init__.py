"""Blocks of any size, on pages that are asked for and given back."""
