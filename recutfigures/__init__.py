"""Put together: any figure cut into any other of the same size."""
