"""Other differences: pairs x, y whose one square is near to n times the other."""
