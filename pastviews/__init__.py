"""Past views of a replicated tree."""
