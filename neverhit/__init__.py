"""Neverhit: halls of mirrors, and which places see which over all directions at once."""
