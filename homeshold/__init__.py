"""Homeshold: files kept by many homes."""
