"""Wordfinder: lines found by their words."""
