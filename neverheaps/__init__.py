"""Neverheaps: works whose hands come and go, and whose heaps stay small."""
