"""Formturn: forms of two letters, turned into one another, their least ones, and their joining."""
