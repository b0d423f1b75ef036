"""The manual's machine as a pipe that works at five instructions at once, on a bench."""
