"""What ruler and compasses reach."""
