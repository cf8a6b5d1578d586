"""Roads between tables: books of moves, told sums, and papers for each answer."""
