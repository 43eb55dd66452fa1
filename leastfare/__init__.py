"""What a journey costs at least. Call leastfare.fares.answers."""
