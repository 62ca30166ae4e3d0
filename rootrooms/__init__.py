"""Meshes of books over rooms and arrows, counts of books, heaps parted."""
