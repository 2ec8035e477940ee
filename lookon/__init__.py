"""Lookon: observers of a document tree."""
