"""Homeround: shortest rounds through all places."""
