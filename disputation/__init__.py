"""Disputations by rules: what is laid down, proposed, answered, pressed for, judged, and taken back."""
