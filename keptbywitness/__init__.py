"""Objects of several nodes, kept exactly as long as somebody may still reach them."""
