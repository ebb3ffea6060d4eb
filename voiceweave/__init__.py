"""Notes in voices, moved, turned about, woven, and looked through for faults."""
