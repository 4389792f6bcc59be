"""Texts made of texts: a sheet has rules, each gives a name to a text."""
