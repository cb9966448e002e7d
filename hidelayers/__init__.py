"""Splitting a hide into layers: the split with the greatest value."""
