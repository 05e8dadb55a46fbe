"""What the told graph is good for: direct calls, dead functions, calls put in place."""
