"""Excerptcheck: are all excerpts of all documents allowed? With certificates."""
