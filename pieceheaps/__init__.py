"""Heaps in pieces: tellings of heaps, and programs of a few steps on them."""
