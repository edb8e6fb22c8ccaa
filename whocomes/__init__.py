"""Who comes: guests who come only if enough of those they know do."""
