"""Whether two graphs are the same."""
