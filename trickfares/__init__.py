"""Trickfares: fare systems without tricks."""
