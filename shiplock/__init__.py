"""A lock for ships: see shiplock.desk."""
