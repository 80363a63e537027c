"""Flagclause: command-line grammars with exact completion."""
