"""Threelanes: every web drawn flat, in three lanes over a tree-like web and a line."""
