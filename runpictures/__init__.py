"""Pictures told by their runs."""
