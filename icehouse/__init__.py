"""An ice house, whole: what melts there, and in which order its blocks should go."""
