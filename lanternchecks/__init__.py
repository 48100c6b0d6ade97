"""lanternwork: checks and ciphers."""
