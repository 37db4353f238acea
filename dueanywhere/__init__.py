"""Dueanywhere: whose midnight is it? Each module is imported by its full name."""
