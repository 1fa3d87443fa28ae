"""A counting frame, every move told."""
