"""Editlots: versions that hang on their lots of edits alone."""
