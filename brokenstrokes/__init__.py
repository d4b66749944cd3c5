"""A counter with broken strokes."""
