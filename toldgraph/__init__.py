"""What the told graph is good for: calls put in place, programs pruned, graphs and runs compared."""
