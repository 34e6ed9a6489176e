"""Pages asked for, handed out, given back."""
