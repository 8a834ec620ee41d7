"""Hingemount: stamps by sets, whole or hinged, true or false."""
