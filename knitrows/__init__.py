"""Knitting by patterns: see knitrows.patterns."""
