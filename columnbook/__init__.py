"""Columnbook: texts set in columns, cut and filled up, and read back."""
