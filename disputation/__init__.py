"""Disputations by rules: what is laid down, proposed, answered, pressed for, and taken back."""
