"""Ways to write a reading: the calls are answered by readingways.readings.answers."""
