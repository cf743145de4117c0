"""Tables modulo a prime."""
