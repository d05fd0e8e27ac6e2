"""Bobbin lace: the pillow."""
