"""Two strings, twisted and turned, undone by few changes."""
