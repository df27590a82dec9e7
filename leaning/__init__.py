"""In which order a tree's boughs come off so that it leans least far."""
