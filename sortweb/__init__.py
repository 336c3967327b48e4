"""Sortweb: webs of comparers that put rows in order."""
