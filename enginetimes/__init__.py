"""An engine of four cylinders kept in time: coils and valves told ahead from the teeth of a wheel."""
