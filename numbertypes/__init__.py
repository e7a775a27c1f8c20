"""Numbertypes: in which rings a program of products is right."""
