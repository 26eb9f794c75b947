"""A regatta scored."""
