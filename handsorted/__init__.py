"""Handsorted: lists that are sorted by a rule and by hand."""
