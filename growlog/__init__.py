"""A log that is only added to."""
