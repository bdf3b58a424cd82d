"""What goes over a campus's wires, in bytes. The calls are in campuswires.wires."""
