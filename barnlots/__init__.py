"""Wares in a barn, first in, first out."""
