"""whence: where each place of a made text came from."""
