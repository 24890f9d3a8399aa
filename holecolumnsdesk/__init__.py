"""Columns of floats with holes, and masks over their rows."""
