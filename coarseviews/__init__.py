"""Coarseviews: programs seen through sets that are allowed."""
