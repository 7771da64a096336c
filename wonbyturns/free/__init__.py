"""Playing that is free: by what is seen of standings, or of gains alone."""
