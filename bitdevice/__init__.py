"""A device asked for bits and registers."""
