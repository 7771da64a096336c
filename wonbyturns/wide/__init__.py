"""Games of which only stretches are known: several lots of moves can come at a standing."""
