"""Notebooks: cells that hang on one another, run again just where they must be."""
