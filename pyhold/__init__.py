"""An interpreter whose runs can be stopped, written down, moved and continued."""
