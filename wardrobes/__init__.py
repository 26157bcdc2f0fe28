"""Wardrobe: who wears what, so that hiring costs the least."""
