"""Two streams of rows joined by key and by time."""
