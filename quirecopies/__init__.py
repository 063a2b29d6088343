"""Copies of a book held against one another."""
