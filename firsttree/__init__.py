"""A file tree out of a stream of archives."""
