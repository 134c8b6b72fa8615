"""Handrack: a rack that holds the tools used last."""
