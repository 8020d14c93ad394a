"""The best by linear conditions, exactly."""
