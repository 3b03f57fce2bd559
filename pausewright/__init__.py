"""Pausewright: works that hand out and wait, made into machines of rooms."""
