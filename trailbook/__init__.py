"""Trailbook: works of several steps that are done once or undone backwards."""
