"""What can stand for what, and projects whose sayings hold at all times."""
