"""Turnedrun: rows that can be run from behind."""
