"""Steps in time: nets of steps with limits and natures."""
