"""A filling station: tanks, nozzles, deliveries, sales and dips."""
