"""Rings of signs in which each word of a book stands just once."""
