"""Latelands: code whose results land late, and where the world may break in."""
