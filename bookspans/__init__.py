"""Spans of a text that is still being changed, and the pages they stand on."""
