"""Foldedways: words that cancel, and what some of them make."""
