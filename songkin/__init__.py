"""Versions of a tune: how far they are apart, and what was changed from one to another."""
