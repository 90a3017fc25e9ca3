"""Rhythms of lights: read, judged, and brought to one form."""
