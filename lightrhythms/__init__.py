"""Rhythms of lights: read, judged, brought to one form, and called by their names."""
