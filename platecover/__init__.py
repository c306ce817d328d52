"""Covers: pictures of coloured places laid out with plates."""
