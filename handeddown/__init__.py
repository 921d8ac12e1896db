"""Handeddown: the fewest settings in a tree of folders that hands them down."""
