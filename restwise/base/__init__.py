"""Words and codes, on which all else is built."""
