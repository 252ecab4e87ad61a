"""Grants handed on, and taken back."""
