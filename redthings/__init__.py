"""Red things among others, drawn and not put back."""
