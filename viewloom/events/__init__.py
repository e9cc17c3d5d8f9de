"""Events, controls and gestures."""
