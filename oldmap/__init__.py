"""Where an old map can lead, and where to dig."""
