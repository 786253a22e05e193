"""What's left, shared out: things in a row are made to fill a length."""
