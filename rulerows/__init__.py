"""Rows of rules of which the first one decides."""
