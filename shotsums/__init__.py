"""A two-sided tabular CUSUM control chart for shot weights."""
