"""Tallyhouse: what numbered tickets are worth, told for all of them at once."""
