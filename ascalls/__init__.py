"""Ascalls: letters between parties that could have been calls."""
