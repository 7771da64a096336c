"""Houses in use: they change under sayings that have to hold."""
