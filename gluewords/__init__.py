"""Words that others make, and the web of letters that tells which."""
