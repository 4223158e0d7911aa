"""The best by several measures, asked by wishes."""
