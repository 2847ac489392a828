"""Round trips: puzzles and their solutions."""
