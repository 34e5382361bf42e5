"""What narrower data would decide."""
