"""Everytongue: one book of meanings, many languages."""
