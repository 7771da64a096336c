"""Games that are played by turns: rows, rounds and mixing."""
