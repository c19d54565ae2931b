"""Wordshapes: words, the tables that they grow, and sums of shapes."""
