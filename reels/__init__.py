"""Captions over a reel that is cut anew."""
