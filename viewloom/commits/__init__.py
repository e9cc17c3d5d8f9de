"""What a commit does: statements, effects and timers."""
