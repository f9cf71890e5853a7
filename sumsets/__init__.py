"""Plusbook: sets of rows of numbers, made by sums and logic."""
