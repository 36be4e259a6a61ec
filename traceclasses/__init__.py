"""Words and runs in which some neighbours may change places."""
