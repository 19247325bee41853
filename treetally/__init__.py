"""Treetally: in how many ways the places of a net hang together."""
