"""Groups told by letters, rules and finite machines."""
