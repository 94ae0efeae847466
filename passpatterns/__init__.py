"""Pathglob: lists of path patterns that keep and drop the entries of a tree."""
