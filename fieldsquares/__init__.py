"""Squaremark: texts as squares of dark and light fields."""
