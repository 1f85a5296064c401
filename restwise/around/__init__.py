"""What is around code: standings, right marks, trails, runs that show events, and holds."""
