"""Playing by lot: at each turn a game is drawn by chance."""
