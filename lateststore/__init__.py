"""What a power cut can leave of stores, flushes and fences."""
