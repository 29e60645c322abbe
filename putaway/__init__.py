"""Put away and fetched: a row of work done with a few registers."""
