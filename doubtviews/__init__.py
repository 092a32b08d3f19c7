"""Whom to doubt: views of one world, and which of them to leave out."""
