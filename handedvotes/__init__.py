"""Handedvotes: votes that are handed on, and what holds of all rolls."""
