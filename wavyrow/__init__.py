"""Longest rows that go up and down by turns."""
