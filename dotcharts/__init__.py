"""Charts in whole dots."""
