"""What persons are to one another."""
