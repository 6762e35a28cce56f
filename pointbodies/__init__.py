"""Bodies between points: corners and sides, exactly. The calls are in pointbodies.bodies."""
