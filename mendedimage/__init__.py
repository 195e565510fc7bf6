"""Program images that tell how they're mended by small programs."""
