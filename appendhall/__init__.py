"""AppendedOnce: a replicated append-only file store."""
