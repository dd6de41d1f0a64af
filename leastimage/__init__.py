"""Leastimage: one least image for a book of objects and archives."""
