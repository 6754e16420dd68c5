"""Stores as sets of patches, conflicts as states."""
