"""Paircounts: rows of letters a and b, and how often an a stands ahead of a b."""
