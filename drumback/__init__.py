"""Images of a drum machine read back as programs."""
