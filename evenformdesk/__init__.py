"""Marked-up texts, in pieces of any size, brought to one form."""
