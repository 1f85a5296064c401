"""Runs of programs, and what marks make of them."""
