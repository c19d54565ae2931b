"""Tests of the package wordshapes."""
