"""Partedvalues: values taken apart by patterns."""
