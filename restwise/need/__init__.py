"""What code needs: facts, the rules that make them, tables and lines."""
