"""States that are hidden, seen by signs, exactly."""
