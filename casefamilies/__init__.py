"""Casefamilies: inductive families, functions by cases, and papers for both."""
